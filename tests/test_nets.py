"""[7.1]: the net, what it tells, its deeds, and rows of them."""

import random
import unittest

from allbrought.books import book_of
from allbrought.disks import Disk
from allbrought.errors import BadDeeds, FloorError, NoDeed, NoNumber, NoRobot, NotWellFormed
from allbrought.floors import Floor
from allbrought.hosts import Host
from allbrought.nets import Net, led_by
from allbrought.robots import Robot
from allbrought.savings import SavedHost, SavedRobot
from tests import slow, slow_rows
from tests.slow_net import Refused, SlowNet
from tests.things import BAD_FLOORS, GOOD_FLOORS, ONE, TWO, TWO_ROWS, no_rows, odd_things

NUMBERS_NOT = [thing for thing in odd_things() if not slow.is_number(thing)] + [True, False, None, "0", (0,), -1, 10 ** 19]
NAMES = ["past", "plan", "counts", "done", "step", "lacks", "may", "cells", "load"]


def told_robot(robot):
    """All that a robot tells, but its letter: a saved one's is written down ahead of it."""
    return {name: getattr(robot, name)() for name in NAMES}


def told(net):
    """All that a net tells, as SlowNet does."""
    host = net.host()
    return {
        "entries": host.book().entries(), "plan": host.plan(), "counts": host.counts(), "left": host.left(),
        "known": host.known(), "robots": net.robots(), "where": net.where(), "meets": net.meets(), "bag": net.bag(),
        "each": [told_robot(net.robot(number)) for number in net.robots()],
    }


def told_by_slow(model):
    found = model.told()
    found["each"] = [{name: one[name] for name in NAMES} for one in found["each"]]
    return found


def two_awake():
    """A net of two robots that heard of two orders; robot 0 may begin, robot 1 too."""
    net = Net(TWO_ROWS, 5)
    led_by(net, [("add", TWO[0]), ("add", TWO[1]), ("wake", 0), ("wake", 1), ("post", 0), ("post", 1)])
    led_by(net, [("bring", 0), ("bring", 0), ("serve", 0), ("serve", 1), ("bring", 0), ("bring", 0)])
    return net


class Case(unittest.TestCase):
    def refused(self, net, thing):
        """The deed is refused, and nothing is changed."""
        kept = told(net)
        parts = [net.host()] + [net.robot(number) for number in net.robots()]
        with self.assertRaises(NoDeed, msg=str(thing)[:99]) as held:
            net.deed(thing)
        self.assertIs(held.exception.__class__, NoDeed)
        self.assertEqual(told(net), kept)
        for one, other in zip(parts, [net.host()] + [net.robot(number) for number in net.robots()], strict=True):
            self.assertIs(one, other)


class New(Case):
    def test_new_nets(self):
        for floor in GOOD_FLOORS + [Floor(("H",))]:
            for match in (0, 5, 2 ** 32 - 1):
                net, model = Net(floor, match), SlowNet(floor, match)
                self.assertEqual(told(net), told_by_slow(model))
                self.assertEqual((net.robots(), net.bag(), net.meets()), ((), [], []))
                self.assertEqual(net.where(), tuple((home,) for home in slow.cells_with(floor, "H")))
                self.assertIs(net.host().__class__, Host)
                self.assertIs(net.host(), net.host())

    def test_no_number_then_not_well_formed(self):
        for match in odd_things() + [-1, 2 ** 32, True, "0"]:
            for floor in (TWO_ROWS, BAD_FLOORS[0][0]):
                with self.assertRaises(NoNumber):
                    Net(floor, match)
        for floor, pair in BAD_FLOORS:
            with self.assertRaises(NotWellFormed) as held:
                Net(floor, 0)
            self.assertEqual((held.exception.who, held.exception.station), pair)

    def test_no_robot(self):
        net = Net(TWO_ROWS, 5)
        for thing in odd_things() + [0, 1, 2]:
            with self.assertRaises(NoRobot):
                net.robot(thing)
        net.deed(("wake", 1))
        for thing in odd_things() + [0, 2, True, "1", (1,)]:
            with self.assertRaises(NoRobot):
                net.robot(thing)
        self.assertIs(net.robot(1), net.robot(1))
        self.assertIs(net.robot(1).__class__, Robot)
        self.assertEqual(net.robots(), (1,))

    def test_nets_are_equal_to_nothing_else(self):
        net = Net(TWO_ROWS, 5)
        for thing in odd_things() + [Net(TWO_ROWS, 5), net.host()]:
            self.assertIs(net == thing, False)

    def test_lists_are_new(self):
        net = two_awake()
        led_by(net, [("post", 0), ("begin", 0)])
        letter = (-1, slow_rows.letter(5, ("say", 0, 2, 0, (0, 0))))
        net.bag().clear()
        net.meets().append((0, 1))
        net.host().book().add(("out", 1))
        self.assertEqual((net.bag(), net.meets(), net.host().book().entries()), ([letter], [], TWO))


class Deeds(Case):
    def test_add(self):
        net = Net(TWO_ROWS, 5)
        self.assertEqual([net.deed(("add", entry)) for entry in TWO + [("out", 1), ("in", 1)]], [0, 1, 2, 3])
        self.assertEqual(net.host().book().entries(), TWO + [("out", 1), ("in", 1)])
        for thing in odd_things() + [("in", 0), ("out", 2), ("orders", ((0, 2),)), ["out", 0], ("orders", ((0, 1),) * 7)]:
            self.refused(net, ("add", thing))
        net.deed(("add", ("out", 0)))
        self.refused(net, ("add", ("out", 0)))
        net.deed(("add", ("out", 1)))
        self.refused(net, ("add", TWO[0]))
        self.refused(net, ("add",))
        self.refused(net, ("add", ("in", 0), 0))
        self.assertEqual(net.deed(("add", ("in", 0))), 6)

    def test_add_to_a_full_book(self):
        net = Net(TWO_ROWS, 5)
        for _ in range(200):
            led_by(net, [("add", ("out", 0)), ("add", ("in", 0))])
        with self.assertRaises(NoDeed):
            net.deed(("add", ("out", 0)))
        self.assertEqual(len(net.host().book().entries()), 400)

    def test_wake(self):
        net = Net(TWO_ROWS, 5)
        for thing in NUMBERS_NOT + [2, 6, 99]:
            self.refused(net, ("wake", thing))
        self.assertIsNone(net.deed(("wake", 1)))
        self.assertEqual((net.robots(), net.robot(1).past()), ((1,), ((), (0, 0), 0, False)))
        self.refused(net, ("wake", 1))
        self.assertIsNone(net.deed(("wake", 0)))
        self.assertEqual(net.robots(), (0, 1))
        for thing in (0, 1, 2, True, False):
            self.refused(net, ("wake", thing))
        self.refused(net, ("wake",))
        self.refused(net, ("wake", 0, 0))

    def test_begin_and_end(self):
        net = two_awake()
        self.assertEqual(net.where(), ((0,), (3,)))
        self.refused(net, ("end", 0))
        self.assertIsNone(net.deed(("begin", 0)))
        self.assertEqual(net.where(), ((0, 1), (3,)))
        self.refused(net, ("begin", 0))
        self.refused(net, ("end", 1))
        self.assertIsNone(net.deed(("end", 0)))
        self.assertEqual((net.where(), net.robot(0).done()), (((1,), (3,)), 1))
        led_by(net, [("begin", 1), ("end", 1)])
        # robot 0 must be out of its next cell, and must be heard to be
        self.refused(net, ("begin", 1))
        for word in ("begin", "end"):
            for thing in NUMBERS_NOT + [2, 99]:
                self.refused(net, (word, thing))
            self.refused(net, (word,))
            self.refused(net, (word, 0, 0))
            self.refused(Net(TWO_ROWS, 5), (word, 0))

    def test_begin_without_a_step(self):
        net = Net(TWO_ROWS, 5)
        net.deed(("wake", 0))
        self.refused(net, ("begin", 0))
        self.refused(net, ("end", 0))

    def test_post_and_serve(self):
        net = two_awake()
        self.assertIsNone(net.deed(("post", 1)))
        self.assertEqual(net.bag(), [(-1, net.robot(1).say())])
        self.assertIsNone(net.deed(("serve", 0)))
        self.assertIsNone(net.deed(("post", 0)))
        self.assertEqual(net.bag(), [(-1, net.robot(1).say()), (0, net.host().letter(0)), (-1, net.robot(0).say())])
        for word in ("post", "serve"):
            for thing in NUMBERS_NOT + [2, 99]:
                self.refused(net, (word, thing))
            self.refused(net, (word,))
            self.refused(net, (word, 0, 0))

    def test_serve_asks_the_host_and_post_the_net(self):
        net = Net(TWO_ROWS, 5)
        net.deed(("wake", 0))
        self.refused(net, ("serve", 0))
        self.refused(net, ("post", 1))
        # the host may know a robot that is not there
        led_by(net, [("send", -1, slow_rows.letter(5, ("say", 1, 0, 0, (0, 0)))), ("bring", 0)])
        self.assertIsNone(net.deed(("serve", 1)))
        self.assertEqual(net.bag(), [(1, net.host().letter(1))])
        self.assertIsNone(net.deed(("bring", 0)))
        self.assertEqual(net.bag(), [])

    def test_bring_any(self):
        net = Net(TWO_ROWS, 5)
        led_by(net, [("add", TWO[0]), ("wake", 0), ("post", 0), ("send", 1, (1, 2)), ("send", 0, (7,)), ("send", -1, ())])
        self.assertEqual(net.deed(("bring", 1)), None)
        self.assertEqual([to for to, _ in net.bag()], [-1, 0, -1])
        self.assertEqual(net.deed(("bring", 1)), "none")
        self.assertEqual(net.deed(("bring", 1)), "none")
        self.assertEqual((net.deed(("bring", 0)), net.bag(), net.host().known()), ("old", [], (0,)))
        led_by(net, [("serve", 0), ("double", 0)])
        self.assertEqual([net.deed(("bring", 0)) for _ in range(2)], ["new", "old"])
        led_by(net, [("begin", 0), ("end", 0), ("post", 0), ("double", 0)])
        self.assertEqual([net.deed(("bring", 1)), net.deed(("bring", 0))], ["new", "old"])
        self.assertEqual(net.host().counts(), (1, 0))

    def test_numbers_of_letters(self):
        net = two_awake()
        led_by(net, [("post", 0), ("post", 1)])
        for thing in NUMBERS_NOT + [2, 3, 99]:
            for deed in [("bring", thing), ("lose", thing), ("double", thing), ("spoil", thing, 0, 0)]:
                self.refused(net, deed)
        for word in ("bring", "lose", "double"):
            self.refused(net, (word,))
            self.refused(net, (word, 0, 0))
            self.refused(Net(TWO_ROWS, 5), (word, 0))
        for deed in [("spoil", 0, 0), ("spoil", 0), ("spoil", 0, 0, 0, 0), ("spoil",)]:
            self.refused(net, deed)

    def test_lose_and_double(self):
        net = two_awake()
        rows = [(0, (1,)), (1, (2,)), (-1, (3,))]
        for to, row in rows:
            self.assertIsNone(net.deed(("send", to, row)))
        self.assertIsNone(net.deed(("double", 1)))
        self.assertEqual(net.bag(), rows + [rows[1]])
        self.assertIsNone(net.deed(("lose", 0)))
        self.assertEqual(net.bag(), rows[1:] + [rows[1]])
        self.assertIsNone(net.deed(("lose", 1)))
        self.assertEqual(net.bag(), [rows[1], rows[1]])

    def test_spoil(self):
        net = two_awake()
        led_by(net, [("send", 0, (1, 2, 3)), ("send", 1, ()), ("double", 0)])
        self.assertIsNone(net.deed(("spoil", 0, 2, 255)))
        self.assertEqual(net.bag(), [(0, (1, 2, 255)), (1, ()), (0, (1, 2, 3))])
        self.assertIsNone(net.deed(("spoil", 2, 0, 0)))
        self.assertEqual(net.bag(), [(0, (1, 2, 255)), (1, ()), (0, (0, 2, 3))])
        for thing in NUMBERS_NOT + [3, 4, 99]:
            self.refused(net, ("spoil", 0, thing, 0))
        for thing in NUMBERS_NOT + [256, 257, 999]:
            self.refused(net, ("spoil", 0, 0, thing))
        self.refused(net, ("spoil", 1, 0, 0))
        self.refused(net, ("spoil", 3, 0, 0))

    def test_send(self):
        net = Net(TWO_ROWS, 5)
        for thing in odd_things() + [2, 6, -2, "0", (0,), None]:
            if thing != -1 or isinstance(thing, bool):
                self.refused(net, ("send", thing, ()))
        for thing in no_rows():
            self.refused(net, ("send", 0, thing))
        for deed in [("send", 0), ("send",), ("send", 0, (), 0)]:
            self.refused(net, deed)
        for to, row in [(-1, ()), (0, (255,)), (1, (0,) * 300000)]:
            self.assertIsNone(net.deed(("send", to, row)))
        self.assertEqual(net.bag(), [(-1, ()), (0, (255,)), (1, (0,) * 300000)])

    def test_cut_amid_a_step_and_between(self):
        for many in range(8):
            for amid in (False, True):
                for side in (0, 1):
                    net = two_awake()
                    led_by(net, [("begin", 0), ("end", 0)] * many + [("begin", 0)] * amid)
                    past, robot = net.robot(0).past(), net.robot(0)
                    self.assertIsNone(net.deed(("cut", 0, side)))
                    done = many + 1 if amid and side == 1 else many
                    self.assertEqual(net.robot(0).past(), (past[0], (done, 0), done, False))
                    self.assertIsNot(net.robot(0), robot)
                    self.assertIs(net.robot(0).__class__, Robot)
                    self.assertEqual(robot.past(), past)

    def test_cut_asks_for_a_robot_and_a_side(self):
        net = two_awake()
        net.deed(("begin", 0))
        for thing in NUMBERS_NOT + [2, 99]:
            self.refused(net, ("cut", thing, 0))
            self.refused(net, ("cut", 0, thing))
        for deed in [("cut",), ("cut", 0), ("cut", 0, 0, 0)]:
            self.refused(net, deed)
        self.refused(Net(TWO_ROWS, 5), ("cut", 0, 0))

    def test_back(self):
        net = two_awake()
        led_by(net, [("begin", 0), ("end", 0), ("post", 0), ("bring", 0), ("post", 1)])
        self.assertEqual((net.host().counts(), net.host().known()), ((1, 0), (0, 1)))
        host, bag = net.host(), net.bag()
        self.assertIsNone(net.deed(("back",)))
        self.assertIsNot(net.host(), host)
        self.assertIs(net.host().__class__, Host)
        self.assertEqual((net.host().counts(), net.host().known(), net.bag()), ((0, 0), (), bag))
        self.assertEqual(net.host().book().entries(), TWO)
        self.assertEqual(net.deed(("bring", 0)), "old")
        self.refused(net, ("back", 0))

    def test_place(self):
        net = Net(TWO_ROWS, 5)
        for robot in (Robot(TWO_ROWS, 5, 1, None, None), SavedRobot(TWO_ROWS, 5, 0, Disk(), None)):
            number = 1 if robot.__class__ is Robot else 0
            self.assertIsNone(net.deed(("place", robot)))
            self.assertIs(net.robot(number), robot)
            self.refused(net, ("wake", number))
        self.assertEqual(net.robots(), (0, 1))
        # they are led themselves
        past = (tuple(ONE), (2, 0), 2, False)
        robot = Robot(TWO_ROWS, 5, 0, past, None)
        net.deed(("place", robot))
        self.assertEqual((net.where(), net.robots()), (((2,), (3,)), (0, 1)))
        net.deed(("begin", 0))
        self.assertEqual(robot.past(), (tuple(ONE), (2, 0), 2, True))
        robot.end()
        self.assertEqual(net.robot(0).done(), 3)

    def test_host(self):
        net = two_awake()
        disk = Disk()
        for host in (Host(TWO_ROWS, 5, book_of(TWO_ROWS, ONE)), SavedHost(Floor(("H.S", "H.S")), 5, disk)):
            self.assertIsNone(net.deed(("host", host)))
            self.assertIs(net.host(), host)
        self.assertEqual(net.deed(("add", TWO[0])), 0)
        self.assertEqual((host.book().entries(), len(disk.blocks())), ([TWO[0]], 1))
        led_by(net, [("post", 0), ("bring", 0), ("serve", 0)])
        self.assertEqual((len(disk.blocks()), disk.synced()), (2, 2))
        net.deed(("back",))
        self.assertEqual((net.host().__class__, net.host().book().entries()), (Host, [TWO[0]]))

    def test_place_and_host_of_this_floor_and_match(self):
        net = two_awake()
        other = Floor(("H.S", "HS."))
        for match, floor in [(4, TWO_ROWS), (5, other), (0, other)]:
            for robot in (Robot(floor, match, 0, None, None), SavedRobot(floor, match, 0, Disk(), None)):
                self.refused(net, ("place", robot))
            for host in (Host(floor, match, None), SavedHost(floor, match, Disk())):
                self.refused(net, ("host", host))
        for thing in odd_things() + [Disk(), Net(TWO_ROWS, 5), 0, 1]:
            self.refused(net, ("place", thing))
            self.refused(net, ("host", thing))
        self.refused(net, ("place", Host(TWO_ROWS, 5, None)))
        self.refused(net, ("host", Robot(TWO_ROWS, 5, 0, None, None)))
        robot, host = Robot(TWO_ROWS, 5, 0, None, None), Host(TWO_ROWS, 5, None)
        for deed in [("place",), ("host",), ("place", robot, 0), ("host", host, 0), ("place", 0, robot)]:
            self.refused(net, deed)

    def test_what_is_no_deed(self):
        net = two_awake()
        words = ["add", "wake", "begin", "end", "post", "serve", "bring", "lose", "double", "spoil", "send", "cut", "back"]
        words += ["place", "host"]
        for thing in odd_things() + words + [(word.upper(), 0) for word in words] + [(word,) for word in words[:-3]]:
            self.refused(net, thing)
        for thing in [
            ["begin", 0], ("begin", [0]), ("", 0), (b"begin", 0), (0, "begin"), (None, 0), (("begin", 0),), ("begin ", 0),
            ("deed", 0), ("robot", 0), ("robots",), ("where",), ("_begin", 0), ("back", None), (["begin"], 0), ({}, 0),
            {"begin": 0}, "begin", ("order", 0, 1), ("out", 0), ("in", 0), ("round_trip",), ("begin", 0, None),
        ]:
            self.refused(net, thing)
        for thing in odd_things():
            self.refused(net, ("begin", thing))
            self.refused(net, (thing, 0))

    def test_meets(self):
        net = Net(Floor(("H.S.H", "..H..")), 5)
        # no robots that go on by letters of one host meet; those that are placed anyhow may
        self.assertEqual(net.meets(), [])
        past = ((("orders", ((0, 0),)),), (0, 0, 0), 0, False)
        for number in (0, 1, 2):
            out = tuple(("out", other) for other in range(3) if other != number)
            entries = out + past[0]
            net.deed(("place", Robot(Floor(("H.S.H", "..H..")), 5, number, (entries,) + past[1:], None)))
        expected = {0: [], 1: [(0, 1)], 2: [(0, 1), (0, 2), (1, 2)]}
        for number, deeds in [(0, ["begin", "end", "begin", "end"]), (1, ["begin", "end", "begin"]), (2, ["begin"])]:
            for word in deeds:
                net.deed((word, number))
            self.assertEqual(net.meets(), expected[number])
        self.assertEqual(net.where(), ((2,), (2, 3), (2, 7)))
        net.deed(("cut", 1, 0))
        self.assertEqual(net.meets(), [(0, 2)])


class LedBy(Case):
    def test_what_they_returned(self):
        deeds = [("add", TWO[0]), ("wake", 0), ("post", 0), ("bring", 0), ("serve", 0), ("bring", 0), ("begin", 0)]
        for kind in (list, tuple):
            net = Net(TWO_ROWS, 5)
            some = kind(deeds)
            self.assertEqual(led_by(net, some), [0, None, None, "old", None, "new", None])
            self.assertEqual(some, kind(deeds))
            self.assertEqual(net.robot(0).past(), (tuple(ONE), (0, 0), 0, True))
            self.assertEqual(led_by(net, kind()), [])

    def test_bad_deeds(self):
        for at in range(4):
            for bad in [("begin", 1), 0, None, ("add",), ("bring", 9)]:
                net, other = Net(TWO_ROWS, 5), Net(TWO_ROWS, 5)
                right = [("add", TWO[0]), ("wake", 0), ("post", 0), ("bring", 0)]
                for kind in (list, tuple):
                    net, other = Net(TWO_ROWS, 5), Net(TWO_ROWS, 5)
                    with self.assertRaises(BadDeeds) as held:
                        led_by(net, kind(right[:at] + [bad] + right[at:] + [bad]))
                    self.assertEqual(held.exception.index, at)
                    led_by(other, right[:at])
                    self.assertEqual(told(net), told(other))

    def test_no_list(self):
        net = two_awake()
        kept = told(net)
        for thing in odd_things() + ["", 0, None, {}, {0: ("wake", 0)}, "wake", range(0)]:
            if not isinstance(thing, (list, tuple)):
                with self.assertRaises(BadDeeds) as held:
                    led_by(net, thing)
                self.assertEqual(held.exception.index, -1)
            elif thing:
                with self.assertRaises(BadDeeds) as held:
                    led_by(net, thing)
                self.assertEqual(held.exception.index, 0)
        self.assertEqual(told(net), kept)


class AgainstTheSlowNet(Case):
    """Nets that do whatever deeds come, right ones and wrong ones, beside what the document's words make of it."""

    def random_deed(self, chance, model, entries):
        robot, letter = chance.randrange(-1, len(model.homes) + 1), chance.randrange(len(model.bag) + 2) - 1
        row = model.bag[letter][1] if 0 <= letter < len(model.bag) else (1, 2)
        return chance.choice([
            ("add", entries[len(model.host.entries) % len(entries)]), ("wake", robot), ("post", robot), ("serve", robot),
            ("bring", letter), ("bring", 0), ("bring", 0), ("lose", letter), ("double", letter), ("cut", robot, 0),
            ("cut", robot, chance.choice((0, 1, 1, 2))), ("spoil", letter, chance.randrange(9), chance.randrange(257)),
            ("send", chance.randrange(-2, len(model.homes) + 1), row), ("back",),
        ] + [("begin", robot), ("end", robot)] * 6)

    def test_beside(self):
        words, refused = set(), set()
        for seed, floor in enumerate(GOOD_FLOORS[:8] * 3):
            chance = random.Random(300 + seed)
            net, model = Net(floor, 9), SlowNet(floor, 9)
            # the same ones on the same floor: the slow plans of them are laid once
            entries = slow.random_entries(random.Random(300 + seed % 8), floor, 5)
            for _ in range(150):
                thing = self.random_deed(chance, model, entries)
                try:
                    expected = model.deed(thing)
                except Refused:
                    self.refused(net, thing)
                    refused.add(thing[0])
                else:
                    self.assertEqual(net.deed(thing), expected)
                    words.add((thing[0], expected if isinstance(expected, str) else None))
                self.assertEqual(told(net), told_by_slow(model))
                for number in net.robots():
                    self.assertEqual(net.robot(number).say(), model.robots[number].say())
        done = {word for word, _ in words}
        self.assertEqual(done, set("add wake begin end post serve bring lose double spoil send cut back".split()))
        self.assertEqual(refused, done - {"back"})
        self.assertLessEqual({("bring", word) for word in ("none", "old", "new", None)}, words)


class Errors(unittest.TestCase):
    def test_just_the_one_that_is_named(self):
        net = two_awake()
        for thing in odd_things():
            for deed in [thing, ("add", thing), ("send", thing, thing), ("place", thing), (thing, thing)]:
                with self.assertRaises(FloorError) as held:
                    net.deed(deed)
                self.assertIs(held.exception.__class__, NoDeed)


if __name__ == "__main__":
    unittest.main()
