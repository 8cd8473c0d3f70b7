"""[6.4]: THE MAIN FACT over nets led by deeds, with plain and saved hosts and robots, whose disks are cut anywhere."""

import random
import unittest

from allbrought.disks import Disk
from allbrought.floors import Floor
from allbrought.nets import Net, led_by, round_trip, rounds
from allbrought.savings import SavedHost, SavedRobot
from allbrought.steps import steps
from tests import slow, slow_rows
from tests.things import GOOD_FLOORS

MATCH = 77
FLOORS = GOOD_FLOORS[:8] + [Floor(("HH.HH", "..S..", "S...#")), Floor(("HHHHH", "..S..", "#...S"))]
DEEDS = ["come", "post", "post", "serve", "serve", "lose", "double", "spoil", "made_up", "cut", "power_cut", "host_cut", "back"]
DEEDS += ["bring"] * 5 + ["go"] * 9 + ["add"]


class Play:
    """A net, the disks of its saved ones, and the steps that bodies did."""

    def __init__(self, seed, floor):
        self.chance = random.Random(seed)
        self.floor = floor
        self.homes = slow.cells_with(floor, "H")
        self.stations = len(slow.cells_with(floor, "S"))
        self.net = Net(floor, MATCH)
        self.host_disk = None
        if seed % 2:
            self.host_disk = Disk()
            self.net.deed(("host", SavedHost(floor, MATCH, self.host_disk)))
        self.disks = {}
        self.bodies = [[] for _ in self.homes]
        self.seen = set()

    def one_there(self):
        return self.chance.choice(self.net.robots()) if self.net.robots() else None

    def add(self):
        book = self.net.host().book()
        robot = self.chance.randrange(len(self.homes))
        if self.chance.random() < 0.3 or not book.robots_in():
            self.net.deed(("add", ("out" if robot in book.robots_in() else "in", robot)))
        elif len(book.orders()) < 15:
            pairs = [(self.chance.randrange(self.stations), self.chance.randrange(self.stations)) for _ in range(3)]
            self.net.deed(("add", ("orders", tuple(pairs[:self.chance.randint(1, 3)]))))

    def come(self):
        number = self.chance.randrange(len(self.homes))
        if number not in self.net.robots():
            if self.chance.random() < 0.4:
                self.net.deed(("wake", number))
            else:
                self.disks[number] = Disk()
                self.net.deed(("place", SavedRobot(self.floor, MATCH, number, self.disks[number], None)))

    def post(self):
        if self.net.robots():
            self.net.deed(("post", self.one_there()))

    def serve(self):
        known = self.net.host().known()
        if known:
            self.net.deed(("serve", self.chance.choice(known)))

    def in_bag(self):
        return self.chance.randrange(len(self.net.bag())) if self.net.bag() else None

    def bring(self):
        if self.net.bag():
            self.seen.add(self.net.deed(("bring", self.in_bag())))

    def lose(self):
        if len(self.net.bag()) > 4:
            self.net.deed(("lose", self.in_bag()))

    def double(self):
        if 0 < len(self.net.bag()) < 12:
            self.net.deed(("double", self.in_bag()))

    def spoil(self):
        if self.net.bag():
            k = self.in_bag()
            to, row = self.net.bag()[k]
            at = self.chance.randrange(len(row))
            # a letter that a robot did not say, or the host did not tell, ends in another seal
            self.net.deed(("spoil", k, at, (row[at] + self.chance.randint(1, 255)) % 256))
            self.seen.add(self.net.deed(("bring", k)))

    def made_up(self):
        many = (9,) * len(self.homes)
        row = self.chance.choice([
            (), (1, 2, 3), slow_rows.letter(MATCH + 1, ("tell", many, 0, (("out", 0),))), slow_rows.sealed_zero(MATCH),
            slow_rows.letter(MATCH - 1, ("say", 0, 9, 9, many)),
        ])
        self.net.deed(("send", self.chance.randrange(-1, len(self.homes)), row))
        self.seen.add(self.net.deed(("bring", len(self.net.bag()) - 1)))

    def go(self):
        number = self.one_there()
        if number is not None:
            robot = self.net.robot(number)
            if robot.past()[3]:
                self.bodies[number].append(robot.step())
                self.net.deed(("end", number))
            elif robot.may():
                self.net.deed(("begin", number))

    def body_perhaps_goes_on(self, robot, number):
        """A step that is begun is done by the body, or not; which."""
        side = self.chance.randrange(2)
        if robot.past()[3] and side == 1:
            self.bodies[number].append(robot.step())
        return side

    def cut(self):
        """A robot is made anew of its past; it has no disk from now on."""
        number = self.one_there()
        if number is not None and (number not in self.disks or self.chance.random() < 0.1):
            robot = self.net.robot(number)
            self.seen.add(("cut", robot.past()[3]))
            self.net.deed(("cut", number, self.body_perhaps_goes_on(robot, number)))
            self.disks.pop(number, None)

    def power_cut(self):
        """The disk of a saved robot is cut, and the robot made anew of it."""
        if self.disks:
            number = self.chance.choice(sorted(self.disks))
            robot, disk = self.net.robot(number), self.disks[number]
            self.seen.add(("power cut", robot.past()[3]))
            self.body_perhaps_goes_on(robot, number)
            self.cut_disk(disk)
            self.net.deed(("place", SavedRobot(self.floor, MATCH, number, disk, self.eye(number))))

    def cut_disk(self, disk):
        waiting = disk.blocks()[disk.synced():]
        self.seen.add(("waited", len(waiting) > 0))
        disk.cut(tuple(self.chance.choice((0, len(row), self.chance.randint(0, len(row)))) for row in waiting))

    def host_cut(self):
        if self.host_disk is not None:
            if self.chance.random() < 0.3:
                self.net.host().store()
            self.cut_disk(self.host_disk)
            ahead = self.net.host().book().entries()
            host = SavedHost(self.floor, MATCH, self.host_disk)
            self.seen.add(("entries lost", len(host.book().entries()) < len(ahead)))
            self.net.deed(("host", host))

    def back(self):
        if self.host_disk is None:
            self.net.deed(("back",))

    def eye(self, number):
        cell, load = self.homes[number], None
        for step in self.bodies[number]:
            cell = step[3] if step[0] == "go" else cell
            load = {"take": step[2], "put": None}.get(step[0], load)
        return cell, load


class TheMainFact(unittest.TestCase):
    def check(self, play):
        net = play.net
        self.assertEqual(net.meets(), [])
        together = [cell for lot in net.where() for cell in lot]
        self.assertEqual(len(together), len(set(together)))
        plan, entries = net.host().plan(), net.host().book().entries()
        for number in net.robots():
            robot = net.robot(number)
            own, heard = robot.plan(), robot.past()[0]
            self.assertEqual(list(heard), entries[:len(heard)])
            self.assertEqual([track[:len(mine)] for track, mine in zip(plan.tracks, own.tracks)], list(own.tracks))
            self.assertEqual(plan.jobs[:len(own.jobs)], own.jobs)
            self.assertEqual(robot.done(), len(play.bodies[number]))
            self.assertEqual(tuple(play.bodies[number]), steps(plan, number)[:robot.done()])
            self.assertIn(play.eye(number)[0], robot.cells())
            self.assertEqual(play.eye(number)[1], robot.load())
        for said, body in zip(net.host().counts(), play.bodies):
            self.assertLessEqual(said, len(body))

    def finish(self, play):
        """When all are there and letters come, nobody waits for ever, and all is brought."""
        net = play.net
        for number in range(len(play.homes)):
            if number not in net.robots():
                led_by(net, [("wake", number)])
        plan = net.host().plan()
        left = sum(len(steps(plan, number)) - net.robot(number).done() for number in net.robots())
        while left:
            self.assertEqual(net.meets(), [])
            done = round_trip(net)
            self.assertGreater(done, 0)
            left -= done
        self.assertLessEqual(rounds(net, 10000), 2)
        self.assertEqual((left, net.host().left(), net.bag()), (0, 0, []))
        self.assertEqual(net.where(), tuple((home,) for home in play.homes))
        rows = [steps(plan, number)[:net.robot(number).done()] for number in net.robots()]
        put = {step[2] for row in rows for step in row if step[0] == "put"}
        self.assertEqual(put, set(range(len(net.host().book().orders()))))

    def test_nets(self):
        seen = set()
        for seed, floor in enumerate(FLOORS * 4):
            play = Play(600 + seed + seed // 10, floor)
            for _ in range(180):
                getattr(play, play.chance.choice(DEEDS))()
                self.check(play)
            self.finish(play)
            seen |= play.seen
        self.assertEqual(seen, {"new", "old", "none", None} | {
            (word, flag) for word in ("cut", "power cut", "waited", "entries lost") for flag in (False, True)
        })

    def test_floors_of_one_to_six_robots(self):
        self.assertEqual({len(slow.cells_with(floor, "H")) for floor in FLOORS}, {1, 2, 3, 4, 5, 6})


if __name__ == "__main__":
    unittest.main()
