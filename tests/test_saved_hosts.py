"""[8.4]: hosts that come back from their disks, and THE FACT OF THE HOST'S JOURNAL."""

import random
import unittest

from allbrought.disks import Disk, record
from allbrought.errors import FloorError, NoDisk, NoEntry, NoNumber, NoRobot, NotWellFormed, OtherMatch
from allbrought.floors import Floor
from allbrought.hosts import Host
from allbrought.letters import read_letter
from allbrought.savings import SavedHost
from allbrought.texts import floor_mark
from tests import slow, slow_rows
from tests.test_hosts import say, told
from tests.things import BAD_FLOORS, GOOD_FLOORS, ONE, TWO, TWO_ROWS, odd_things

METHODS = ["book", "add", "left", "plan", "counts", "known", "hear", "letter", "store"]


def begin_block(floor, match):
    signs = tuple(map(ord, "".join(row + "\n" for row in floor.rows)))
    contents = (0,) + slow_rows.wholes(match, slow_rows.mark(signs))
    return (len(contents),) + contents


def block(entry):
    row = slow_rows.entry(entry)
    return slow_rows.whole(len(row)) + row


def disk_of(blocks, synced):
    disk = Disk()
    for number, row in enumerate(blocks):
        disk.write(row)
        if number + 1 == synced:
            disk.sync()
    return disk


def raised(floor, match, disk):
    try:
        SavedHost(floor, match, disk)
    except FloorError as error:
        return error.__class__
    return None


BEGIN = begin_block(TWO_ROWS, 5)


class New(unittest.TestCase):
    def test_a_subclass_with_all_methods_of_its_own(self):
        self.assertEqual(SavedHost.__bases__, (Host,))
        for name in METHODS:
            self.assertIn(name, vars(SavedHost))
        self.assertIsInstance(SavedHost(TWO_ROWS, 5, Disk()), Host)

    def test_over_a_new_disk(self):
        for floor in GOOD_FLOORS:
            for match in (0, 5, 300, 2 ** 32 - 1):
                disk = Disk()
                host = SavedHost(floor, match, disk)
                self.assertEqual((disk.blocks(), disk.synced()), ([begin_block(floor, match)], 1))
                self.assertEqual(told(host), told(Host(floor, match, None)))
        self.assertEqual(BEGIN, record((0, 5) + slow_rows.whole(floor_mark(TWO_ROWS))))

    def test_over_its_own_disk(self):
        disk = disk_of([BEGIN] + [block(entry) for entry in TWO], 1)
        host = SavedHost(TWO_ROWS, 5, disk)
        self.assertEqual((disk.blocks(), disk.synced()), ([BEGIN] + [block(entry) for entry in TWO], 3))
        self.assertEqual((host.book().entries(), host.counts(), host.known()), (TWO, (0, 0), ()))
        # it goes on with the disk that was passed
        host.add(("out", 0))
        self.assertEqual(host.store(), 1)
        self.assertEqual(disk.blocks()[3:], [block(("out", 0))])

    def test_over_a_disk_that_begins_otherwise(self):
        right = [block(entry) for entry in TWO]
        for first in [
            (), (0,), BEGIN[:-1], BEGIN + (0,), (BEGIN[0] - 1,) + BEGIN[1:-1] + (BEGIN[-1] + 128,), record((0,)), record(()),
            record((0, 5)), record((0, 5, 6, 7)), record((0, 5, 128)), record((0, 5, 128, 0)), record((1, 5, 6)),
            record((4,) + BEGIN[2:]), record((4, 5, 6, 0)), right[0], record((0,) + (255,) * 9 + (2, 0)), (255,) * 30,
            record((0, 5, 6) + (0,)), BEGIN[1:], record(BEGIN),
        ]:
            for synced in range(3):
                disk = disk_of([first] + right, synced)
                host = SavedHost(TWO_ROWS, 5, disk)
                self.assertEqual((disk.blocks(), disk.synced()), ([BEGIN], 1), first)
                self.assertEqual(host.book().entries(), [])
                self.assertEqual((host.add(TWO[0]), host.store(), disk.blocks()), (0, 1, [BEGIN, right[0]]))

    def test_over_another_begin(self):
        right = [block(entry) for entry in TWO]
        for first in [
            begin_block(TWO_ROWS, 4), begin_block(Floor(("H.S", "HS.")), 5), begin_block(Floor(("H.S", "HS.")), 0),
            record((0, 5, 6)), record((0, 0, 0)), record((0,) + slow_rows.wholes(2 ** 64 - 1, 2 ** 64 - 1)),
            record((0, 5) + slow_rows.whole(floor_mark(TWO_ROWS) + 1)), record((0,) + BEGIN[3:] + (5,)),
        ]:
            for synced in range(4):
                disk = disk_of([first] + right, synced)
                self.assertIs(raised(TWO_ROWS, 5, disk), OtherMatch)
                self.assertEqual((disk.blocks(), disk.synced()), ([first] + right, synced))

    def test_blocks_behind_the_right_ones_are_dropped(self):
        right = [block(entry) for entry in TWO]
        for at in range(3):
            for bad in [(), (0,), right[0][:-1], block(("in", 0)), block(("out", 2)), BEGIN, record((5, 0)), (255,) * 9]:
                for synced in range(5):
                    disk = disk_of([BEGIN] + right[:at] + [bad] + right[at:], synced)
                    host = SavedHost(TWO_ROWS, 5, disk)
                    self.assertEqual((disk.blocks(), disk.synced()), ([BEGIN] + right[:at], at + 1))
                    self.assertEqual(host.book().entries(), TWO[:at])
                    self.assertEqual([host.add(("out", 1)), host.store()], [at, 1])
                    self.assertEqual(disk.blocks(), [BEGIN] + right[:at] + [block(("out", 1))])

    def test_errors_in_their_order(self):
        barred = BAD_FLOORS[0][0]
        other = disk_of([begin_block(TWO_ROWS, 4), (1,)], 1)
        for floor, pair in BAD_FLOORS:
            for match, disk in [(5, Disk()), ("5", None), (5, 0), (-1, other)]:
                with self.assertRaises(NotWellFormed) as held:
                    SavedHost(floor, match, disk)
                self.assertEqual((held.exception.who, held.exception.station), pair)
        for match in odd_things() + [2 ** 32, -1, True, "5"]:
            for disk in (Disk(), None, other):
                self.assertIs(raised(TWO_ROWS, match, disk), NoNumber)
            self.assertIs(raised(barred, match, other), NotWellFormed)
        for thing in odd_things() + [None, 0, [], (), [BEGIN], Host(TWO_ROWS, 5, None)]:
            self.assertIs(raised(TWO_ROWS, 5, thing), NoDisk)
        self.assertIs(raised(TWO_ROWS, 5, other), OtherMatch)
        self.assertEqual((other.blocks(), other.synced()), ([begin_block(TWO_ROWS, 4), (1,)], 1))

    def test_hosts_are_equal_to_nothing_else(self):
        host = SavedHost(TWO_ROWS, 5, Disk())
        for thing in odd_things() + [Host(TWO_ROWS, 5, None), SavedHost(TWO_ROWS, 5, Disk())]:
            self.assertIs(host == thing, False)
            self.assertIs(thing == host, False)


class Storing(unittest.TestCase):
    def test_store(self):
        disk = Disk()
        host = SavedHost(TWO_ROWS, 5, disk)
        self.assertEqual(host.store(), 0)
        for entry in TWO:
            host.add(entry)
        self.assertEqual(len(disk.blocks()), 1)
        self.assertEqual((host.store(), host.store()), (2, 0))
        self.assertEqual((disk.blocks(), disk.synced()), ([BEGIN] + [block(entry) for entry in TWO], 3))
        host.add(("out", 0))
        self.assertEqual((host.store(), disk.blocks()[3:], disk.synced()), (1, [block(("out", 0))], 4))

    def test_it_is_synced_in_every_case(self):
        disk = Disk()
        host = SavedHost(TWO_ROWS, 5, disk)
        disk.write((7,))
        self.assertEqual((host.store(), disk.synced()), (0, 2))
        host.hear(say(0, 0, 0, (0, 0)))
        disk.write((8,))
        host.letter(0)
        self.assertEqual((disk.blocks(), disk.synced()), ([BEGIN, (7,), (8,)], 3))

    def test_a_letter_lasts_ahead_of_it(self):
        disk = Disk()
        host = SavedHost(TWO_ROWS, 5, disk)
        for many, entry in enumerate(TWO + [("out", 0)]):
            host.add(entry)
            for thing in odd_things() + [0, 1, 2]:
                if many == 0 or thing not in (0, 1) or thing is False or thing is True:
                    with self.assertRaises(NoRobot):
                        host.letter(thing)
            self.assertEqual((len(disk.blocks()), disk.synced()), (many + 1, many + 1))
            self.assertEqual(host.hear(say(0, 0, 0, (0, 0))), "old")
            self.assertEqual(host.hear(say(1, many, 0, (0, 0))), "old")
            self.assertEqual(len(disk.blocks()), many + 1)
            letter = host.letter(1)
            self.assertEqual((disk.blocks()[-1], disk.synced()), (block(entry), many + 2))
            self.assertEqual(letter, slow_rows.letter(5, ("tell", (0, 0), many, (entry,))))
            self.assertEqual(letter, host.letter(1))
            self.assertEqual((host.store(), len(disk.blocks())), (0, many + 2))

    def test_all_entries_are_written_for_any_letter(self):
        disk = Disk()
        host = SavedHost(TWO_ROWS, 5, disk)
        host.hear(say(1, 90, 0, (0, 0)))
        entries = [("out", 0), ("in", 0)] * 40
        for entry in entries:
            host.add(entry)
        # a letter that tells no entry
        self.assertEqual(read_letter(TWO_ROWS, 5, host.letter(1)), ("tell", (0, 0), 90, ()))
        self.assertEqual((disk.blocks(), disk.synced()), ([BEGIN] + [block(entry) for entry in entries], 81))

    def test_methods_do_as_those_of_a_host(self):
        for seed, floor in enumerate(GOOD_FLOORS[1:8]):
            chance = random.Random(430 + seed)
            robots = len(slow.cells_with(floor, "H"))
            saved, plain = SavedHost(floor, 5, Disk()), Host(floor, 5, None)
            entries = slow.random_entries(chance, floor, 7)
            for _ in range(60):
                if chance.random() < 0.2:
                    entry = chance.choice(entries[len(plain.book().entries()):][:1] + [("in", 9), None])
                    answers = []
                    for host in (saved, plain):
                        try:
                            answers.append(host.add(entry))
                        except NoEntry:
                            answers.append("refused")
                    self.assertEqual(answers[0], answers[1])
                robot = chance.randrange(robots)
                counts = [chance.randint(0, 9) for _ in range(robots)]
                thing = chance.choice([say(robot, chance.randint(0, 7), counts[robot], counts), (), None])
                self.assertEqual(saved.hear(thing), plain.hear(thing))
                self.assertEqual(told(saved), told(plain))
                for number in plain.known():
                    self.assertEqual(saved.letter(number), plain.letter(number))


class TheFact(unittest.TestCase):
    def test_cut_anywhere_and_often(self):
        for seed, floor in enumerate(GOOD_FLOORS[1:8] * 3):
            chance = random.Random(440 + seed)
            robots = len(slow.cells_with(floor, "H"))
            stations = len(slow.cells_with(floor, "S"))
            disk = Disk()
            host, all_told = SavedHost(floor, 5, disk), []
            for _ in range(50):
                ahead = host.book().entries()
                word = chance.choice(("add", "add", "letter", "store", "cut"))
                if word == "add":
                    inside = host.book().robots_in()
                    robot = chance.randrange(robots)
                    if chance.random() < 0.5 or not inside:
                        host.add(("out" if robot in inside else "in", robot))
                    elif len(host.book().orders()) < 12:
                        host.add(("orders", ((chance.randrange(stations), chance.randrange(stations)),)))
                elif word == "store":
                    host.store()
                elif word == "letter":
                    robot = chance.randrange(robots)
                    host.hear(say(robot, len(ahead) - chance.randint(0, min(3, len(ahead))), 0, (0,) * robots))
                    _, _, first, entries = read_letter(floor, 5, host.letter(robot))
                    self.assertEqual(tuple(ahead[first:first + 60]), entries)
                    all_told = max(all_told, ahead[:first + len(entries)], key=len)
                else:
                    # waiting blocks of which some are written in part
                    if chance.random() < 0.5:
                        for entry in host.book().entries()[len(disk.blocks()) - 1:]:
                            disk.write(block(entry))
                    waiting = disk.blocks()[disk.synced():]
                    disk.cut(tuple(chance.choice((0, len(row), chance.randint(0, len(row)))) for row in waiting))
                    host = SavedHost(floor, 5, disk)
                    back = host.book().entries()
                    self.assertEqual(back, ahead[:len(back)])
                    self.assertEqual(back[:len(all_told)], all_told)
                    self.assertEqual(disk.synced(), len(disk.blocks()))

    def test_all_that_was_stored_comes_back(self):
        disk = Disk()
        host = SavedHost(TWO_ROWS, 5, disk)
        for entry in TWO + ONE:
            host.add(entry)
        self.assertEqual(SavedHost(TWO_ROWS, 5, disk.copy()).book().entries(), [])
        host.store()
        for _ in range(3):
            host = SavedHost(TWO_ROWS, 5, disk)
            self.assertEqual((host.book().entries(), host.counts(), host.known()), (TWO + ONE, (0, 0), ()))
            self.assertEqual((host.store(), len(disk.blocks())), (0, 4))


if __name__ == "__main__":
    unittest.main()
