"""[7.2]: round trips, rounds, and THE FACT OF ROUNDS."""

import random
import unittest

from allbrought.books import book_of
from allbrought.disks import Disk
from allbrought.errors import NoNumber
from allbrought.floors import Floor
from allbrought.hosts import Host
from allbrought.nets import Net, led_by, round_trip, rounds
from allbrought.robots import Robot
from allbrought.savings import SavedHost, SavedRobot
from tests import slow
from tests.slow_net import Refused, SlowNet
from tests.test_nets import told, told_by_slow
from tests.things import GOOD_FLOORS, ONE, TWO, TWO_ROWS, odd_things

# of one to six robots
FLOORS = GOOD_FLOORS[:8] + [Floor(("HH.HH", "..S..", "S...#")), Floor(("HHHHH", "..S..", "#...S"))]


def net_of(floor, entries, numbers):
    net = Net(floor, 5)
    led_by(net, [("add", entry) for entry in entries] + [("wake", number) for number in numbers])
    return net


def ticks_left(net):
    """The unlike ticks of the steps that are not done."""
    plan = net.host().plan()
    done = [net.robot(number).done() if number in net.robots() else 0 for number in range(len(plan.tracks))]
    return {step[1] for number, many in enumerate(done) for step in slow.steps_of(plan, number)[many:]}


class RoundTrip(unittest.TestCase):
    def test_step_by_step(self):
        net = net_of(TWO_ROWS, TWO, (0, 1))
        # robot 1 goes into cell 5 behind step 5 of robot 0, and hears of it in the next round trip
        for many, done in [(2, (1, 1)), (1, (2, 1)), (1, (3, 1)), (1, (4, 1)), (1, (5, 1)), (1, (6, 1)), (2, (7, 2))]:
            self.assertEqual(round_trip(net), many)
            self.assertEqual((net.robot(0).done(), net.robot(1).done(), net.bag()), done + ([],))
        self.assertEqual([round_trip(net) for _ in range(6)], [2, 1, 1, 1, 0, 0])
        self.assertEqual((net.host().left(), net.where()), (0, ((0,), (3,))))

    def test_without_robots_and_with_one(self):
        net = net_of(TWO_ROWS, TWO, ())
        self.assertEqual((round_trip(net), net.bag(), net.host().known()), (0, [], ()))
        net = net_of(TWO_ROWS, TWO, (1,))
        self.assertEqual([round_trip(net) for _ in range(3)], [1, 0, 0])
        self.assertEqual(net.host().known(), (1,))

    def test_a_step_that_is_begun_is_ended(self):
        net = net_of(TWO_ROWS, TWO, (0, 1))
        round_trip(net)
        led_by(net, [("begin", 0)])
        self.assertEqual(round_trip(net), 1)
        self.assertEqual(net.robot(0).past()[1:], ((2, 1), 2, False))

    def test_letters_that_wait_are_brought_first(self):
        net = net_of(TWO_ROWS, ONE, (0, 1))
        round_trip(net)
        led_by(net, [("post", 0), ("begin", 0), ("end", 0), ("serve", 1), ("send", 0, (1, 2)), ("double", 0)])
        self.assertEqual(round_trip(net), 1)
        self.assertEqual((net.bag(), net.host().counts(), net.robot(0).done()), ([], (2, 0), 3))

    def test_a_robot_whose_letter_is_none_is_not_served(self):
        net = Net(TWO_ROWS, 5)
        led_by(net, [("place", Robot(TWO_ROWS, 5, 0, (tuple(ONE), (2, 0), 2, False), None)), ("wake", 1)])
        # the host's plan has no step of it: so it hears nothing, but the robot goes on
        self.assertEqual([round_trip(net) for _ in range(2)], [1, 1])
        self.assertEqual((net.host().known(), net.robot(0).done(), net.bag()), ((1,), 4, []))

    def test_beside_the_slow_net(self):
        for seed, floor in enumerate(FLOORS):
            chance = random.Random(320 + seed)
            entries = slow.random_entries(chance, floor, 4)
            net, model = Net(floor, 9), SlowNet(floor, 9)
            for _ in range(30):
                number = chance.randrange(len(model.homes))
                deeds = [("add", chance.choice(entries)), ("wake", number), ("begin", number), ("post", number)]
                for deed in chance.sample(deeds + [("back",), ("cut", number, 1)], 3):
                    if deed[0] == "add" and len(model.host.entries) < 3:
                        deed = ("add", entries[len(model.host.entries)])
                    elif deed[0] == "add":
                        continue
                    try:
                        model.deed(deed)
                    except Refused:
                        continue
                    net.deed(deed)
                self.assertEqual(round_trip(net), model.round_trip())
                self.assertEqual(told(net), told_by_slow(model))

    def test_sixty_entries_are_heard_at_once_and_more_later(self):
        turns = [("out", 0), ("in", 0)] * 40
        net = net_of(TWO_ROWS, turns + ONE, (0, 1))
        for heard, steps in [(60, 0), (81, 1)]:
            self.assertEqual(round_trip(net), steps)
            self.assertEqual([len(net.robot(number).past()[0]) for number in (0, 1)], [heard, heard])


class Rounds(unittest.TestCase):
    def test_how_many(self):
        for most, many in [(0, 0), (1, 1), (2, 2), (11, 11), (12, 12), (13, 12), (10000, 12)]:
            net, other = net_of(TWO_ROWS, TWO, (0, 1)), net_of(TWO_ROWS, TWO, (0, 1))
            self.assertEqual(rounds(net, most), many)
            for _ in range(many):
                round_trip(other)
            self.assertEqual(told(net), told(other))
            self.assertEqual(net.host().left() == 0, many == 12)

    def test_none_to_do(self):
        self.assertEqual(rounds(Net(TWO_ROWS, 5), 9), 1)
        self.assertEqual(rounds(net_of(TWO_ROWS, TWO, ()), 9), 1)
        self.assertEqual(rounds(net_of(TWO_ROWS, [], (0, 1)), 9), 1)
        self.assertEqual(rounds(Net(TWO_ROWS, 5), 0), 0)

    def test_it_goes_on_until_all_have_heard_the_book(self):
        turns = [("out", 0), ("in", 0)] * 100
        # in none of the first three round trips is there a step to do
        net = net_of(TWO_ROWS, turns + ONE, (0, 1))
        self.assertEqual(rounds(net, 2), 2)
        self.assertEqual(net.robot(0).book().entries(), turns[:120])
        self.assertEqual(rounds(net, 100), 2 + 8)
        self.assertEqual((net.host().left(), net.robot(1).book().entries()), (0, turns + ONE))
        # nothing to do at all, but much to hear
        self.assertEqual(rounds(net_of(TWO_ROWS, turns, (0, 1)), 100), 4)
        # what robots that are not there did not hear does not count
        self.assertEqual(rounds(net_of(TWO_ROWS, turns, (1,)), 100), 4)
        # one that heard this book and more heard it
        net = net_of(TWO_ROWS, ONE, (1,))
        net.deed(("place", Robot(TWO_ROWS, 5, 0, (tuple(TWO), (0, 0), 0, False), None)))
        self.assertEqual((rounds(net, 30), net.host().left()), (9, 0))
        # one that heard another book never hears this one
        net = net_of(TWO_ROWS, turns[:2], (1,))
        net.deed(("place", Robot(TWO_ROWS, 5, 0, (tuple(ONE) * 2, (0, 0), 0, False), None)))
        self.assertEqual(rounds(net, 30), 30)

    def test_no_number(self):
        net = net_of(TWO_ROWS, TWO, (0, 1))
        kept = told(net)
        for thing in odd_things() + [-1, 10001, 10 ** 6, True, False, None, "1", (1,)]:
            if not slow.is_number(thing) or thing > 10000:
                with self.assertRaises(NoNumber):
                    rounds(net, thing)
        self.assertEqual(told(net), kept)


class TheFact(unittest.TestCase):
    def check_rounds(self, net, floor, seen):
        """As many round trips as there are unlike ticks, each doing a step; in the end all is brought."""
        many = len(ticks_left(net))
        for _ in range(many):
            ahead = net.host().plan()
            left = sum(len(slow.steps_of(ahead, number)) - net.robot(number).done() for number in net.robots())
            done = round_trip(net)
            self.assertEqual(net.meets(), [])
            if left:
                self.assertGreater(done, 0)
                seen.add(done)
        self.assertEqual(ticks_left(net), set())
        self.assertEqual(net.where(), tuple((home,) for home in slow.cells_with(floor, "H")))
        round_trip(net)
        self.assertEqual((net.host().left(), net.robots()), (0, tuple(range(len(slow.cells_with(floor, "H"))))))
        plan = net.host().plan()
        put = {step[2] for number in net.robots() for step in slow.steps_of(plan, number) if step[0] == "put"}
        self.assertEqual(put, set(range(len(net.host().book().orders()))))

    def test_all_robots_there_from_the_first_on(self):
        seen = set()
        for seed, floor in enumerate(FLOORS * 2):
            chance = random.Random(330 + seed)
            entries = slow.random_entries(chance, floor, chance.choice((0, 1, 4, 9)))
            net = net_of(floor, entries, range(len(slow.cells_with(floor, "H"))))
            self.check_rounds(net, floor, seen)
        self.assertLessEqual({1, 2, 3}, seen)

    def test_robots_woken_on_the_way_and_books_that_grow(self):
        for seed, floor in enumerate(FLOORS * 2):
            chance = random.Random(360 + seed)
            homes = slow.cells_with(floor, "H")
            net = Net(floor, 5)
            book = slow.random_entries(chance, floor, 8)
            while len(net.robots()) < len(homes) or len(net.host().book().entries()) < len(book):
                many = len(net.host().book().entries())
                sleeping = [number for number in range(len(homes)) if number not in net.robots()]
                deeds = [("add", book[many])] if many < len(book) else []
                net.deed(chance.choice(deeds + [("wake", number) for number in sleeping]))
                if chance.random() < 0.5:
                    round_trip(net)
                    self.assertEqual(net.meets(), [])
            if chance.random() < 0.5:
                number = chance.randrange(len(homes))
                led_by(net, [("cut", number, chance.randrange(2)), ("back",)])
            self.check_rounds(net, floor, set())

    def test_with_saved_ones(self):
        for seed, floor in enumerate(FLOORS):
            chance = random.Random(390 + seed)
            net = Net(floor, 5)
            net.deed(("host", SavedHost(floor, 5, Disk())))
            for number in range(len(slow.cells_with(floor, "H"))):
                net.deed(("place", SavedRobot(floor, 5, number, Disk(), None)))
            led_by(net, [("add", entry) for entry in slow.random_entries(chance, floor, 5)])
            self.check_rounds(net, floor, set())

    def test_fewer_than_sixty_more_than_each_heard(self):
        floor = FLOORS[2]
        book = book_of(floor, [("out", 0), ("in", 0)] * 28 + TWO + ONE)
        net = Net(floor, 5)
        led_by(net, [("host", Host(floor, 5, book)), ("wake", 0), ("wake", 1)])
        self.assertEqual(len(book.entries()), 59)
        self.check_rounds(net, floor, set())


if __name__ == "__main__":
    unittest.main()
