"""[6.4]: THE MAIN FACT, over nets of a host and one to six robots, whose letters and parts fail in every way."""

import random
import unittest

from allbrought.floors import Floor
from allbrought.hosts import Host
from allbrought.robots import Robot
from allbrought.steps import steps
from tests import slow, slow_rows
from tests.things import GOOD_FLOORS, odd_things

MATCH = 1234
FLOORS = GOOD_FLOORS[:8] + [Floor(("HH.HH", "..S..", "S...#")), Floor(("HHHHH", "..S..", "#...S"))]


class Net:
    """A host, robots with bodies that do steps, and letters on their way: pairs (to, row), to -1 for the host."""

    def __init__(self, chance, floor):
        self.chance = chance
        self.floor = floor
        self.homes = slow.cells_with(floor, "H")
        self.host = Host(floor, MATCH, None)
        self.robots = {}
        self.bag = []
        # the steps that bodies did
        self.bodies = [[] for _ in self.homes]
        self.seen = set()

    def one_there(self):
        return self.chance.choice(sorted(self.robots)) if self.robots else None

    def add(self):
        """One more entry that the book takes."""
        inside = self.host.book().robots_in()
        robot = self.chance.randrange(len(self.homes))
        stations = len(slow.cells_with(self.floor, "S"))
        if self.chance.random() < 0.4 or not inside:
            self.host.add(("out" if robot in inside else "in", robot))
        elif len(self.host.book().orders()) < 20:
            orders = self.chance.randint(1, 3)
            self.host.add(("orders", tuple(
                (self.chance.randrange(stations), self.chance.randrange(stations)) for _ in range(orders)
            )))

    def wake(self):
        number = self.chance.randrange(len(self.homes))
        if number not in self.robots:
            self.robots[number] = Robot(self.floor, MATCH, number, None, self.eye(number))

    def post(self):
        number = self.one_there()
        if number is not None:
            self.bag.append((-1, self.robots[number].say()))

    def serve(self):
        if self.host.known():
            number = self.chance.choice(self.host.known())
            self.bag.append((number, self.host.letter(number)))

    def deliver(self, to, row):
        if to == -1:
            self.seen.add(("host", self.host.hear(row)))
        elif to in self.robots:
            self.seen.add(("robot", self.robots[to].hear(row)))

    def bring(self):
        if self.bag:
            self.deliver(*self.bag.pop(self.chance.randrange(len(self.bag))))

    def lose(self):
        if self.bag:
            self.bag.pop(self.chance.randrange(len(self.bag)))

    def double(self):
        if self.bag:
            self.bag.append(self.chance.choice(self.bag))

    def spoil(self):
        """A letter with one byte unlike, cut short, of another match, or anything that is none; perhaps astray."""
        if self.bag:
            to, row = self.chance.choice(self.bag)
            at = self.chance.randrange(len(row))
            other = (row[at] + self.chance.randint(1, 255)) % 256
            many = [9] * len(self.homes)
            self.deliver(self.chance.choice((to, -1, 0)), self.chance.choice((
                row[:at] + (other,) + row[at + 1:], row[:at], slow_rows.letter(MATCH + 1, ("tell", many, 0, ())),
                slow_rows.letter(MATCH - 1, ("say", 0, 9, 9, many)), self.chance.choice(odd_things()),
            )))

    def go_on(self):
        number = self.one_there()
        if number is not None:
            self.work(number)

    def work(self, number):
        """End a step that is begun, otherwise begin one that may be begun; whether one was ended."""
        robot = self.robots[number]
        if robot.past()[3]:
            self.bodies[number].append(robot.step())
            robot.end()
            return True
        if robot.may():
            robot.begin()
        return False

    def cut(self):
        """A robot is made anew; a step that is begun was done by its body, or was not."""
        number = self.one_there()
        if number is not None:
            robot = self.robots[number]
            amid = robot.past()[3]
            if amid and self.chance.random() < 0.5:
                self.bodies[number].append(robot.step())
            eye = self.eye(number) if amid else self.chance.choice((None, self.eye(number)))
            self.robots[number] = Robot(self.floor, MATCH, number, robot.past(), eye)
            self.seen.add(("cut", amid))

    def back(self):
        self.host = Host(self.floor, MATCH, self.host.book())

    def eye(self, number):
        cell, load = self.homes[number], None
        for step in self.bodies[number]:
            cell = step[3] if step[0] == "go" else cell
            load = {"take": step[2], "put": None}.get(step[0], load)
        return cell, load

    def settle(self):
        """The host hears what all robots say now, and all of them its letters, until they have heard all entries."""
        for number in range(len(self.homes)):
            if number not in self.robots:
                self.robots[number] = Robot(self.floor, MATCH, number, None, self.eye(number))
        while True:
            for number, robot in self.robots.items():
                self.host.hear(robot.say())
            for number, robot in self.robots.items():
                robot.hear(self.host.letter(number))
            many = len(self.host.book().entries())
            if all(len(robot.past()[0]) == many for robot in self.robots.values()):
                return


DEEDS = ["wake", "post", "post", "serve", "serve", "bring", "bring", "bring", "bring", "lose", "double", "spoil", "cut"]
DEEDS += ["go_on"] * 9 + ["back"]


class MainFact(unittest.TestCase):
    def check(self, net):
        """The parts (a), (b) and (c)."""
        plan, entries = net.host.plan(), net.host.book().entries()
        held = [net.robots[number].cells() if number in net.robots else (home,) for number, home in enumerate(net.homes)]
        together = [cell for lot in held for cell in lot]
        self.assertEqual(len(together), len(set(together)), held)
        for number, robot in net.robots.items():
            own = robot.plan()
            for track, its_track in zip(own.tracks, plan.tracks, strict=True):
                self.assertEqual(its_track[:len(track)], track)
            self.assertEqual(plan.jobs[:len(own.jobs)], own.jobs)
            heard = robot.past()[0]
            self.assertEqual(heard, tuple(entries[:len(heard)]))
            self.assertEqual(robot.done(), len(net.bodies[number]))
            self.assertEqual(net.bodies[number], list(steps(plan, number)[:robot.done()]))
            self.assertEqual((robot.load(), True), (net.eye(number)[1], net.eye(number)[0] in robot.cells()))
        for said, body in zip(net.host.counts(), net.bodies):
            self.assertLessEqual(said, len(body))

    def left(self, net):
        plan = net.host.plan()
        return sum(len(steps(plan, number)) - len(body) for number, body in enumerate(net.bodies))

    def check_that_somebody_goes_on(self, net):
        """The part (d)."""
        net.settle()
        self.check(net)
        self.assertEqual(net.host.left(), self.left(net))
        able = [number for number, robot in net.robots.items() if robot.past()[3] or robot.may()]
        self.assertEqual(able == [], self.left(net) == 0)

    def finish(self, net):
        """With letters that come, and robots that go on, all is done."""
        while self.left(net) > 0:
            ahead = self.left(net)
            self.check_that_somebody_goes_on(net)
            for _ in range(2):
                for number in net.chance.sample(sorted(net.robots), len(net.robots)):
                    net.work(number)
                    self.check(net)
            self.assertLess(self.left(net), ahead)
        net.settle()
        self.check(net)
        self.assertEqual(net.host.left(), 0)
        brought = {step[2] for body in net.bodies for step in body if step[0] == "put"}
        self.assertEqual(brought, set(range(len(net.host.book().orders()))))

    def run_net(self, seed, floor, many):
        chance = random.Random(seed)
        net = Net(chance, floor)
        for _ in range(many):
            getattr(net, "add" if chance.random() < 0.03 else chance.choice(DEEDS))()
            self.check(net)
            if chance.random() < 0.01:
                self.check_that_somebody_goes_on(net)
        self.finish(net)
        return net.seen

    def test_nets(self):
        seen = set()
        for seed, floor in enumerate(FLOORS * 3):
            seen |= self.run_net(180 + seed, floor, 250)
        self.assertEqual(seen, {
            ("host", "none"), ("host", "new"), ("host", "old"), ("robot", "none"), ("robot", "new"), ("robot", "old"),
            ("cut", True), ("cut", False),
        })

    def test_robots_that_never_hear_do_nothing(self):
        net = Net(random.Random(190), FLOORS[5])
        net.host.add(("orders", ((0, 1), (1, 2))))
        for number in range(len(net.homes)):
            net.robots[number] = Robot(net.floor, MATCH, number, None, None)
        for number in net.robots:
            self.assertEqual((net.robots[number].may(), net.robots[number].cells()), (False, (net.homes[number],)))
        self.finish(net)

    def test_more_entries_than_one_letter_tells(self):
        floor = FLOORS[2]
        net = Net(random.Random(191), floor)
        for _ in range(40):
            for entry in [("out", 0), ("orders", ((0, 1),)), ("in", 0), ("orders", ((1, 1),))]:
                net.host.add(entry)
        net.host.add(("orders", ((1, 0),) * 6))
        self.assertEqual(len(net.host.book().entries()), 161)
        net.robots[0] = Robot(floor, MATCH, 0, None, None)
        for many in (60, 120, 161):
            net.host.hear(net.robots[0].say())
            self.assertEqual(net.robots[0].hear(net.host.letter(0)), "new")
            self.assertEqual(len(net.robots[0].book().entries()), many)
        net.settle()
        self.check_that_somebody_goes_on(net)

    def test_floors_of_one_to_six_robots(self):
        self.assertEqual({len(slow.cells_with(floor, "H")) for floor in FLOORS}, {1, 2, 3, 4, 5, 6})


if __name__ == "__main__":
    unittest.main()
