"""Over the whole program: [0.3], [0.4], and a net of a saved host and saved robots, told as a film."""

import copy
import importlib
import inspect
import random
import re
import unittest

from allbrought.books import Book, book_of
from allbrought.bookrows import book_row, read_book
from allbrought.desks import Desk
from allbrought.disks import Disk, kept_entries
from allbrought.doing import is_over
from allbrought.films import Film, brought, done_then, first_wrong, gap, held_then, is_film, loads, merged
from allbrought.floors import Floor
from allbrought.hosts import Host
from allbrought.letters import letter_row
from allbrought.measures import rests
from allbrought.nets import Net, led_by, round_trip, rounds
from allbrought.pictures import Screen, drawn, picture_of, redrawn
from allbrought.plans import is_plan, plan_of
from allbrought.reels import Reel, film_row, read_film
from allbrought.robots import Robot
from allbrought.savings import SavedHost, SavedRobot
from allbrought.steps import hangings, steps
from allbrought.texts import book_text, plan_text, read_book_text, read_plan
from allbrought.tracks import Plan, stretches
from tests import slow
from tests.test_net_facts import FLOORS
from tests.things import GOOD_FLOORS, ONE, TWO, TWO_ROWS, odd_things

# the interface: of each module its functions, and of its classes their methods
INTERFACE = {
    "floors": "Floor cells neighbours homes stations way barring is_barring is_well_formed barred far",
    "tracks": "Plan where last_tick first_clash stretches", "plans": "is_plan best_path plan_of", "books": "Book book_of",
    "steps": "steps hangs_on hangings is_before chain", "times": "ends critical whole_time slack",
    "doing": "is_closed is_over may_do cells_of loads_of held led finish", "measures": "passes busiest rests bounds",
    "rows": "whole signed read_whole read_signed", "marks": "mark mark_behind", "changes": "changed change is_change",
    "bookrows": "entry_row book_row read_entry read_book", "letters": "sealed unsealed read_letter letter_row", "hosts": "Host",
    "robots": "Robot", "nets": "Net led_by round_trip rounds", "disks": "Disk record read_record kept_entries",
    "texts": "floor_text book_text plan_text read_floor floor_mark read_book_text read_plan",
    "savings": "SavedHost SavedRobot past_row read_past", "reels": "film_row read_film Reel",
    "films": "Film done_then amid_then held_then brought loads first_wrong is_film played merged gap",
    "pictures": "drawn picture_of redrawn changes Screen", "desks": "Desk",
}
OF_HOST = "book add left plan counts known hear letter"
OF_ROBOT = "book plan past counts lacks cells done step may begin end load hear say"
METHODS = {
    "Floor": "__eq__", "Plan": "__eq__", "Film": "__eq__", "Book": "add entries orders robots_in plan copy", "Host": OF_HOST,
    "Robot": OF_ROBOT, "Net": "host robot robots where bag meets deed", "Disk": "write sync synced blocks cut drop copy",
    "SavedHost": OF_HOST + " store", "SavedRobot": OF_ROBOT + " store", "Reel": "stands worked cells_now done_now kept seek copy",
    "Screen": "show picture shown", "Desk": "tell",
}


class Interface(unittest.TestCase):
    def test_names_stand_in_their_modules(self):
        classes = set()
        for module, names in INTERFACE.items():
            held = importlib.import_module("allbrought." + module)
            for name in names.split():
                thing = getattr(held, name)
                self.assertEqual(thing.__module__, "allbrought." + module, name)
                if inspect.isclass(thing):
                    classes.add(name)
                    for method in METHODS[name].split():
                        self.assertIn(method, vars(thing), name)
                else:
                    self.assertTrue(inspect.isfunction(thing))
        self.assertEqual(classes, set(METHODS))

    def test_arguments(self):
        for module, name, many in [
            ("nets", "Net", 2), ("savings", "SavedHost", 3), ("savings", "SavedRobot", 5), ("disks", "Disk", 0), ("films", "Film", 2),
            ("reels", "Reel", 2), ("pictures", "Screen", 1), ("desks", "Desk", 0), ("nets", "led_by", 2), ("nets", "rounds", 2),
            ("texts", "read_plan", 3), ("disks", "kept_entries", 2), ("savings", "past_row", 2), ("pictures", "drawn", 3),
        ]:
            held = getattr(importlib.import_module("allbrought." + module), name)
            self.assertEqual(len(inspect.signature(held).parameters), many, name)


class Copies(unittest.TestCase):
    """Lists and dicts are new each time; what was told may be changed."""

    def lists(self):
        """Calls that tell a list or a dict."""
        plan = plan_of(TWO_ROWS, TWO)
        crossed = Plan((((0, 0), (1, 1), (4, 0)), ((0, 3),)), ())
        book = book_of(TWO_ROWS, TWO)
        net = Net(TWO_ROWS, 5)
        led_by(net, [("add", TWO[0]), ("wake", 0), ("post", 0)])
        disk = Disk()
        host = SavedHost(TWO_ROWS, 5, disk)
        host.add(TWO[0])
        host.store()
        return [
            book.entries, book.orders, net.bag, net.meets, disk.blocks, lambda: hangings(plan), lambda: stretches(plan, 2, 1),
            lambda: rests(crossed, 0), lambda: kept_entries(TWO_ROWS, disk.blocks()[1:]), lambda: led_by(net, [("double", 0), ("lose", 1)]),
            host.book().entries, net.host().book().entries, lambda: read_book(TWO_ROWS, book_row(book)).entries(),
        ]

    def test_lists_and_dicts_are_new(self):
        for call in self.lists():
            first = call()
            kept = copy.deepcopy(first)
            second = call()
            self.assertIsNot(first, second)
            self.assertEqual(second, kept)
            if isinstance(first, list):
                first.append(0)
                second.clear()
            else:
                first[0] = 0
                second.clear()
            self.assertEqual(call(), kept)

    def test_books_that_are_told_are_copies(self):
        host, saved = Host(TWO_ROWS, 5, book_of(TWO_ROWS, ONE)), SavedHost(TWO_ROWS, 5, Disk())
        saved.add(ONE[0])
        robot = Robot(TWO_ROWS, 5, 0, (tuple(ONE), (0, 0), 0, False), None)
        minds = [host, saved, robot]
        for mind in minds:
            book = mind.book()
            book.add(("out", 0))
            self.assertIsInstance(book, Book)
            self.assertEqual((mind.book().entries(), len(book.entries())), (ONE, 2))
            self.assertEqual(mind.plan(), plan_of(TWO_ROWS, ONE))

    def test_what_is_passed_stays_as_it_is_and_may_change_afterwards(self):
        entries, blocks, robots = list(TWO), [(1,), (2,)], [0, 1, 0]
        deeds = [("add", TWO[0]), ("wake", 0)]
        kept = copy.deepcopy((entries, blocks, robots, deeds))
        plan, book = plan_of(TWO_ROWS, entries), book_of(TWO_ROWS, entries)
        net = Net(TWO_ROWS, 5)
        led_by(net, deeds)
        kept_entries(TWO_ROWS, blocks)
        text = plan_text(plan)
        read_plan(TWO_ROWS, entries, text)
        self.assertEqual((entries, blocks, robots, deeds), kept)
        for some in (entries, blocks, robots, deeds):
            some.clear()
        self.assertEqual((book.entries(), plan_text(plan)), (TWO, text))
        self.assertEqual(net.host().book().entries(), [TWO[0]])

    def test_equal_exactly_if_parts_are(self):
        plans = [plan_of(TWO_ROWS, entries) for entries in ([], ONE, TWO)]
        events = [(), (("begin", 0),), (("begin", 0), ("end", 0))]
        things = GOOD_FLOORS + plans + [Film(plan, some) for plan in plans for some in events]
        again = [Floor(floor.rows) for floor in GOOD_FLOORS] + [Plan(plan.tracks, plan.jobs) for plan in plans]
        again += [Film(plan, some) for plan in plans for some in events]
        for at, one in enumerate(things):
            for other_at, other in enumerate(again):
                self.assertIs(one == other, at == other_at)
            for thing in odd_things():
                if not isinstance(thing, (Floor, Plan)):
                    self.assertIs(one == thing, False)


class TheWhole(unittest.TestCase):
    """Orders, a saved host, saved robots, deeds and faults, films, pictures, and all is brought."""

    def lead(self, chance, net, floor, disks, host_disk):
        """A few hundred deeds, among them cuts of all disks."""
        homes, stations = slow.cells_with(floor, "H"), len(slow.cells_with(floor, "S"))
        for _ in range(250):
            number, many = chance.randrange(len(homes)), len(net.bag())
            word = chance.choice(["add"] + ["post", "serve", "lose", "double"] + ["bring"] * 6 + ["go"] * 8 + ["cut", "host"])
            if word == "add" and len(net.host().book().orders()) < 12:
                net.deed(("add", ("orders", ((chance.randrange(stations), chance.randrange(stations)),))))
            elif word == "post" or (word == "serve" and number in net.host().known()):
                net.deed((word, number))
            elif word in ("bring", "lose", "double") and 0 < many < 20 + 20 * (word != "double"):
                net.deed((word, chance.randrange(many)))
            elif word == "go" and net.robot(number).past()[3]:
                net.deed(("end", number))
            elif word == "go" and net.robot(number).may():
                net.deed(("begin", number))
            elif word == "cut" and not net.robot(number).past()[3]:
                self.cut(chance, disks[number])
                eye = (net.robot(number).cells()[0], net.robot(number).load())
                ahead = net.robot(number).past()
                net.deed(("place", SavedRobot(floor, 3, number, disks[number], eye)))
                self.assertEqual(net.robot(number).past()[2:], ahead[2:])
            elif word == "host":
                self.cut(chance, host_disk)
                net.deed(("host", SavedHost(floor, 3, host_disk)))
            self.assertEqual(net.meets(), [])

    def cut(self, chance, disk):
        disk.cut(tuple(chance.randint(0, len(row)) for row in disk.blocks()[disk.synced():]))

    def check_film(self, net, floor):
        """What robots did is told as a film without a wrong event, with its row, its reel and its pictures."""
        plan = net.host().plan()
        done = tuple(net.robot(number).done() for number in net.robots())
        self.assertIsNone(gap(plan, done))
        film = merged(plan, done)
        self.assertTrue(is_film(plan, film))
        self.assertIsNone(first_wrong(film))
        end = len(film.events)
        self.assertEqual(done_then(film, end), done)
        self.assertEqual(read_film(plan, film_row(film)), film)
        reel, screen = Reel(film, 7), Screen(floor)
        picture = screen.picture()
        for at in range(0, end + 1, 1 + end // 9):
            reel.seek(at)
            self.assertEqual((reel.cells_now(), reel.done_now()), (held_then(film, at), done_then(film, at)))
            picture = redrawn(picture, screen.show(reel.cells_now(), loads(film, at)))
            self.assertEqual(picture, drawn(floor, held_then(film, at), loads(film, at)))
        self.assertEqual(loads(film, end), tuple(net.robot(number).load() for number in net.robots()))
        return film

    def check_texts(self, net, floor):
        book, plan = net.host().book(), net.host().plan()
        self.assertTrue(is_plan(floor, book.entries(), plan))
        self.assertEqual(read_book_text(floor, book_text(book)).entries(), book.entries())
        self.assertEqual(read_plan(floor, book.entries(), plan_text(plan)), plan)

    def test_nets_of_saved_ones(self):
        for seed, floor in enumerate(FLOORS * 2):
            chance = random.Random(1000 + seed)
            homes = slow.cells_with(floor, "H")
            net, host_disk, disks = Net(floor, 3), Disk(), [Disk() for _ in homes]
            net.deed(("host", SavedHost(floor, 3, host_disk)))
            for number, disk in enumerate(disks):
                net.deed(("place", SavedRobot(floor, 3, number, disk, None)))
            self.lead(chance, net, floor, disks, host_disk)
            self.check_texts(net, floor)
            led_by(net, [("end", number) for number in net.robots() if net.robot(number).past()[3]])
            self.check_film(net, floor)
            self.finish(net, floor, homes)
            self.come_back(net, floor, disks, host_disk)

    def finish(self, net, floor, homes):
        many = 0
        while round_trip(net):
            many += 1
            self.assertEqual(net.meets(), [])
        self.assertEqual(rounds(net, 10000), 1)
        self.assertEqual((net.host().left(), net.bag(), net.meets()), (0, [], []))
        self.assertEqual(net.where(), tuple((home,) for home in homes))
        film, plan = self.check_film(net, floor), net.host().plan()
        self.assertTrue(is_over(plan, tuple(net.robot(number).done() for number in net.robots())))
        self.assertEqual(brought(film, len(film.events)), tuple(range(len(net.host().book().orders()))))
        self.assertEqual(picture_of(floor, plan, tuple(len(steps(plan, number)) for number in net.robots())), drawn(
            floor, net.where(), (None,) * len(homes)
        ))

    def come_back(self, net, floor, disks, host_disk):
        """Robots and the host that are made anew of their disks have done and heard the same."""
        for number, disk in enumerate(disks):
            robot = net.robot(number)
            eye = (robot.cells()[0], robot.load())
            self.assertEqual(SavedRobot(floor, 3, number, disk.copy(), eye).past()[2:], robot.past()[2:])
            robot.store()
            again = SavedRobot(floor, 3, number, disk.copy(), eye)
            self.assertEqual((again.past(), again.say(), again.plan()), (robot.past(), robot.say(), robot.plan()))
        net.host().store()
        again = SavedHost(floor, 3, host_disk.copy())
        self.assertEqual(again.book().entries(), net.host().book().entries())

    def test_a_desk_of_all(self):
        desk = Desk()
        floor = Floor(("H.H.H", ".....", "#.S.#", ".S#S."))
        lines = ["floor a " + "|".join(floor.rows) + "|", "net n a", "do n order 0 1 1 2", "do n order 2 2", "do n wake 0", "do n wake 2"]
        for line in lines + ["round n"] * 5 + ["do n wake 1", "do n out 0", "do n order 2 0", "rounds n 1000"]:
            self.assertIsInstance(desk.tell(line), str)
        self.assertEqual([desk.tell("left n"), desk.tell("meets n"), desk.tell("bag n")], ["0", "none", "0"])
        plan = plan_of(floor, [("orders", ((0, 1), (1, 2))), ("orders", ((2, 2),)), ("out", 0), ("orders", ((2, 0),))])
        self.assertEqual(desk.tell("plan n"), plan_text(plan).replace("\n", "|"))
        many = int(desk.tell("film f n 20"))
        self.assertEqual(many, 2 * sum(len(steps(plan, number)) for number in range(3)))
        self.assertEqual([desk.tell(f"seek f {many}"), desk.tell("brought f")], [str(many), "0 1 2 3"])
        self.assertEqual(desk.tell("look f"), desk.tell("view n"))
        self.assertTrue(re.fullmatch(r"[0-9]+", desk.tell("mark a")))


class Letters(unittest.TestCase):
    def test_what_was_returned_may_be_passed_on(self):
        host, robot = SavedHost(TWO_ROWS, 5, Disk()), SavedRobot(TWO_ROWS, 5, 0, Disk(), None)
        for _ in range(100):
            host.add(("out", 0))
            host.add(("in", 0))
        for many in (60, 120, 180, 200):
            self.assertEqual(host.hear(robot.say()), "old")
            self.assertEqual(robot.hear(host.letter(0)), "new")
            self.assertEqual(len(robot.past()[0]), many)
        self.assertEqual(robot.say(), letter_row(TWO_ROWS, 5, ("say", 0, 200, 0, (0, 0))))


if __name__ == "__main__":
    unittest.main()
