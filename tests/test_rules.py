"""[0.4]: nothing that is passed is changed, what is told anew is equal, and lists and dicts are new."""

import copy
import random
import unittest

from allbrought import bookrows, books, changes, desks, disks, doing, films, floors, letters, marks, measures, nets
from allbrought import pictures, plans, reels, rows, savings, steps, texts, times, tracks
from allbrought.errors import FloorError
from allbrought.floors import Floor
from allbrought.hosts import Host
from allbrought.robots import Robot
from tests import slow
from tests.things import TWO, TWO_ROWS, odd_things

BARRED = Floor(("HHS", "..#"))
SAYING = ("say", 1, 2, 1, (4, 1))
TIMES = ((1, 2, 3, 4, 5, 6, 7, 8), (8, 7, 6, 5, 4, 3))
# their last argument is always of the right kind
TRUSTING = [
    floors.cells, floors.homes, floors.stations, floors.barred, tracks.last_tick, plans.plan_of, steps.hangings,
    measures.passes, measures.busiest, measures.bounds, texts.floor_text, texts.floor_mark, texts.plan_text,
    films.first_wrong, reels.film_row,
]
PAST = (tuple(TWO), (3, 0), 3, True)
DEEDS = [("add", TWO[0]), ("wake", 1), ("wake", 0), ("post", 0), ("double", 0), ("bring", 1), ("serve", 0), ("bring", 1)]
DEEDS += [("begin", 0), ("send", -1, (1, 2)), ("spoil", 1, 0, 9)]
EVENTS = (("begin", 0), ("end", 0), ("begin", 1), ("back", 1), ("begin", 0))
LINES = ["floor a H.S|H.S|", "net n a", "do n order 0 1 1 1", "do n wake 0", "rounds n 4", "film f n 3", "seek f 5", "look f"]


def calls():
    """Functions, each with a list of right arguments of its own."""
    plan = plans.plan_of(TWO_ROWS, TWO)
    return [
        (floors.Floor, [("H.S", "H.S")]), (floors.cells, [TWO_ROWS]), (floors.neighbours, [TWO_ROWS, 1]),
        (floors.homes, [TWO_ROWS]), (floors.stations, [TWO_ROWS]), (floors.way, [TWO_ROWS, 0, 1]),
        (floors.barring, [BARRED, 0, 0]), (floors.is_barring, [BARRED, 0, 0, (1,)]),
        (floors.is_well_formed, [TWO_ROWS]), (floors.barred, [BARRED]), (floors.far, [TWO_ROWS, 0, 0, 5]),
        (tracks.Plan, [plan.tracks, plan.jobs]), (tracks.where, [plan, 5]), (tracks.last_tick, [plan]),
        (tracks.first_clash, [TWO_ROWS, plan.tracks]), (tracks.stretches, [plan, 2, 1]),
        (plans.is_plan, [TWO_ROWS, list(TWO), plan]), (plans.best_path, [TWO_ROWS, list(TWO), 1, (0, 1)]),
        (plans.plan_of, [TWO_ROWS, list(TWO)]),
        (told, [TWO_ROWS, list(TWO)]),
        (steps.steps, [plan, 0]), (steps.hangs_on, [plan, (1, 1)]), (steps.hangings, [plan]),
        (steps.is_before, [plan, (0, 0), (1, 1)]), (steps.chain, [plan, (1, 1)]),
        (doing.is_closed, [plan, (6, 2)]), (doing.is_over, [plan, (6, 2)]), (doing.may_do, [plan, (6, 2)]),
        (doing.cells_of, [plan, (6, 2)]), (doing.loads_of, [plan, (4, 0)]), (doing.held, [plan, (6, 2), (0, 1)]),
        (doing.led, [plan, (0, 0), [0, 1, 0]]), (doing.finish, [plan, (0, 0)]),
        (times.ends, [plan, TIMES]), (times.whole_time, [plan, TIMES]), (times.critical, [plan, TIMES]),
        (times.slack, [plan, TIMES, (0, 7)]),
        (measures.passes, [plan, 1]), (measures.busiest, [plan]), (measures.bounds, [TWO_ROWS, plan]),
        (measures.rests, [tracks.Plan((((0, 0), (1, 1), (4, 0)), ((0, 3),)), ()), 0]),
        (rows.whole, [300]), (rows.signed, [-300]), (rows.read_whole, [(0, 172, 2, 0), 1]),
        (rows.read_signed, [(0, 172, 2, 0), 1]), (marks.mark, [(7, 8)]), (marks.mark_behind, [9, (7, 8)]),
        (changes.changed, [(1, 2, 3), (3, 5, 9)]), (changes.change, [(1, 2, 3), (1, 9)]),
        (changes.is_change, [(1, 2, 3), (1, 9), (3, 5, 9)]),
        (bookrows.entry_row, [TWO[0]]), (bookrows.read_entry, [(9, 1, 1, 0, 1), 1]), (read_back, [TWO_ROWS, (1, 2, 1)]),
        (letters.sealed, [(1, 2)]), (letters.unsealed, [(1, 0, 0, 0)]), (letters.letter_row, [TWO_ROWS, 5, SAYING]),
        (letters.read_letter, [TWO_ROWS, 5, letters.letter_row(TWO_ROWS, 5, SAYING)]),
        (told_by_host, [TWO_ROWS, list(TWO), letters.letter_row(TWO_ROWS, 5, SAYING)]),
        (told_by_robot, [TWO_ROWS, PAST, (5, 0)]),
        (told_by_net, [TWO_ROWS, 5, DEEDS]), (told_by_disk, [[(1, 2), (), (3,)], (0, 1), 2]),
        (disks.record, [(7, 8)]), (disks.read_record, [(2, 7, 8)]),
        (disks.kept_entries, [TWO_ROWS, [disks.record(bookrows.entry_row(entry)) for entry in TWO] + [(7,)]]),
        (savings.past_row, [TWO_ROWS, PAST]), (savings.read_past, [TWO_ROWS, savings.past_row(TWO_ROWS, PAST)]),
        (told_by_saved_host, [TWO_ROWS, list(TWO), letters.letter_row(TWO_ROWS, 5, SAYING)]),
        (told_by_saved_robot, [TWO_ROWS, letters.letter_row(TWO_ROWS, 5, ("tell", (0, 4), 0, tuple(TWO)))]),
        (texts.floor_text, [TWO_ROWS]), (texts.read_floor, ["H.S\nH.S\n"]), (texts.floor_mark, [TWO_ROWS]),
        (texts.plan_text, [plan]), (texts.read_plan, [TWO_ROWS, list(TWO), texts.plan_text(plan)]),
        (told_by_text, [TWO_ROWS, "order 0 1\nout 1\n"]),
        (films.Film, [plan, EVENTS]), (films.is_film, [plan, films.Film(plan, EVENTS)]),
        (films.first_wrong, [films.Film(plan, EVENTS + EVENTS)]), (films.done_then, [films.Film(plan, EVENTS), 3]),
        (films.amid_then, [films.Film(plan, EVENTS), 3]), (films.held_then, [films.Film(plan, EVENTS), 3]),
        (films.brought, [films.Film(plan, EVENTS), 3]), (films.loads, [films.Film(plan, EVENTS), 3]),
        (films.played, [plan, [0, 1, 0]]), (films.merged, [plan, (6, 2)]), (films.gap, [plan, (0, 2)]),
        (reels.film_row, [films.Film(plan, EVENTS)]), (reels.read_film, [plan, (2, 0, 0, 1, 0)]),
        (told_by_reel, [films.Film(plan, EVENTS * 4), [9, 2, 7], 4]),
        (pictures.drawn, [TWO_ROWS, ((0, 1), (3,)), (None, 0)]), (pictures.picture_of, [TWO_ROWS, plan, (6, 2)]),
        (pictures.changes, ["ab\ncd\n", "ax\nyd\n"]), (pictures.redrawn, ["ab\n", ((0, 0, "x"), (0, 1, "y"))]),
        (told_by_screen, [TWO_ROWS, ((0, 1), (3,)), (None, 0)]), (told_by_desk, [LINES, "brought f"]),
    ]


def told(floor, entries):
    """All that the book of some entries tells, as a list."""
    book = books.book_of(floor, entries)
    return [book.entries(), book.orders(), book.robots_in(), book.plan(), book.copy().entries()]


def read_back(floor, row):
    """The entries and the row of the book of which this is the row."""
    book = bookrows.read_book(floor, row)
    return [book.entries(), bookrows.book_row(book)]


def told_by_host(floor, entries, thing):
    """All that a host tells of the book of some entries that hears a thing, as a list."""
    host = Host(floor, 5, books.book_of(floor, entries))
    word = host.hear(thing)
    some = [host.letter(robot) for robot in host.known()]
    return [word, host.book().entries(), host.plan(), host.counts(), host.left(), host.known(), some]


def told_by_robot(floor, past, eye):
    """All that a robot tells that is made with these, as a list."""
    robot = Robot(floor, 5, 0, past, eye)
    known = [robot.book().entries(), robot.plan(), robot.past(), robot.done(), robot.counts()]
    return known + [robot.step(), robot.lacks(), robot.may(), robot.cells(), robot.load(), robot.say()]


def told_by_net(floor, match, deeds):
    """What a net returns of some deeds, and tells behind them, as a list."""
    net = nets.Net(floor, match)
    answers = nets.led_by(net, deeds)
    some = [net.robot(number).past() for number in net.robots()]
    return [answers, net.host().book().entries(), net.bag(), net.where(), net.meets(), some, nets.rounds(net, 3)]


def told_by_disk(blocks, kept, number):
    """All that a disk tells to which blocks are written, the first being synced, and that is cut, and dropped from."""
    disk = disks.Disk()
    numbers = [disk.write(row) for row in blocks[:1]] + [disk.sync()] + [disk.write(row) for row in blocks[1:]]
    other = disk.copy()
    disk.cut(kept)
    other.drop(number)
    return [numbers, disk.blocks(), disk.synced(), other.blocks(), other.synced()]


def told_by_saved_host(floor, entries, thing):
    """All that a saved host tells that gets some entries and hears a thing, and its disk, as a list."""
    disk = disks.Disk()
    host = savings.SavedHost(floor, 5, disk)
    numbers = [host.add(entry) for entry in entries]
    word = host.hear(thing)
    some = [host.letter(robot) for robot in host.known()]
    return [numbers, word, some, host.store(), disk.blocks(), host.book().entries(), host.counts(), host.left()]


def told_by_saved_robot(floor, thing):
    """All that a saved robot tells that hears a thing, and its disk, as a list."""
    disk = disks.Disk()
    robot = savings.SavedRobot(floor, 5, 0, disk, None)
    known = [robot.hear(thing), robot.store(), robot.past(), robot.say(), disk.blocks(), disk.synced()]
    if robot.may():
        robot.begin()
        robot.end()
    return known + [robot.cells(), disk.blocks(), disk.synced()]


def told_by_text(floor, text):
    """The entries and the text of the book of which this is the text, as a list."""
    book = texts.read_book_text(floor, text)
    return [book.entries(), texts.book_text(book)]


def told_by_reel(film, places, every):
    """All that a reel tells that seeks these places, and a copy of it that goes on, as a list."""
    reel = reels.Reel(film, every)
    told_then = []
    for at in places:
        reel.seek(at)
        told_then.append((reel.stands(), reel.worked(), reel.kept(), reel.cells_now(), reel.done_now()))
    other = reel.copy()
    other.seek(len(film.events))
    return told_then + [reel.stands(), reel.kept(), other.stands(), other.kept(), other.worked()]


def told_by_screen(floor, held, loads):
    screen = pictures.Screen(floor)
    return [screen.picture(), screen.show(held, loads), screen.show(held, loads), screen.picture(), screen.shown()]


def told_by_desk(lines, line):
    desk = desks.Desk()
    return [desk.tell(one) for one in lines] + [desk.tell(line)]


class Rules(unittest.TestCase):
    def test_arguments_stay_and_answers_are_equal_and_new(self):
        for call, arguments in calls():
            kept = copy.deepcopy(arguments)
            first = call(*arguments)
            second = call(*arguments)
            self.assertEqual(arguments, kept)
            self.assertEqual(first, second)
            if isinstance(first, (list, dict)):
                self.assertIsNot(first, second)
                first.clear()
                self.assertEqual(call(*arguments), second)
            self.assertEqual(call(*kept), second)

    def test_odd_arguments_stay(self):
        for call, arguments in calls():
            if call not in TRUSTING:
                for thing in odd_things():
                    told = repr(thing)
                    try:
                        call(*arguments[:-1], thing)
                    except FloorError:
                        pass
                    self.assertEqual(repr(thing), told)

    def test_lists_of_entries_stay_and_may_change_afterwards(self):
        chance = random.Random(51)
        floor = slow.good_floor(chance, 4, 4)
        entries = slow.random_entries(chance, floor, 5)
        kept = list(entries)
        plan = plans.plan_of(floor, entries)
        told = (plan.tracks, plan.jobs)
        self.assertEqual(entries, kept)
        entries.clear()
        self.assertEqual((plan.tracks, plan.jobs), told)
        self.assertEqual(plans.plan_of(floor, kept), plan)


if __name__ == "__main__":
    unittest.main()
