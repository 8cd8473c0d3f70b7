"""The document's words on the host, the net and its deeds, written apart from the package."""

from tests import slow, slow_rows
from tests.slow_robot import SlowRobot, is_taken, laid


class Refused(Exception):
    """A deed that can't be done."""


class SlowHost:
    def __init__(self, floor, match, entries):
        self.floor, self.match, self.entries = floor, match, list(entries)
        self.said = {robot: [0] for robot in range(len(slow.cells_with(floor, "H")))}
        self.heard = {}

    def counts(self):
        return tuple(max(self.said[robot]) for robot in sorted(self.said))

    def rows(self):
        return laid(self.floor, self.entries)[1]

    def left(self):
        return sum(map(len, self.rows())) - sum(self.counts())

    def hear(self, row):
        letter = slow_rows.read_letter(self.match, len(self.said), row)
        if letter is None or letter[0] != "say":
            return "none"
        _, robot, heard, done, _ = letter
        if done > len(self.rows()[robot]):
            return "none"
        self.heard.setdefault(robot, []).append(heard)
        ahead = self.counts()
        self.said[robot].append(done)
        return "old" if self.counts() == ahead else "new"

    def letter(self, robot):
        first = max(self.heard[robot])
        return slow_rows.letter(self.match, ("tell", self.counts(), first, tuple(self.entries[first:][:60])))


def refuse_unless(thing):
    if not thing:
        raise Refused()


class SlowNet:
    """Robots by their numbers, a bag, and the steps that bodies did; deeds are of right kinds, but perhaps undoable."""

    def __init__(self, floor, match):
        self.floor, self.match = floor, match
        self.host = SlowHost(floor, match, [])
        self.homes = slow.cells_with(floor, "H")
        self.robots, self.bag = {}, []

    def where(self):
        return tuple(
            self.robots[number].cells() if number in self.robots else (home,) for number, home in enumerate(self.homes)
        )

    def meets(self):
        lots = self.where()
        return [
            (one, other) for one in range(len(lots)) for other in range(len(lots))
            if one < other and set(lots[one]) & set(lots[other])
        ]

    def deed(self, thing):
        return getattr(self, "do_" + thing[0])(*thing[1:])

    def there(self, number):
        refuse_unless(number in self.robots)
        return self.robots[number]

    def do_add(self, entry):
        refuse_unless(is_taken(self.floor, self.host.entries, entry))
        self.host.entries.append(entry)
        return len(self.host.entries) - 1

    def do_wake(self, number):
        refuse_unless(number not in self.robots and 0 <= number < len(self.homes))
        self.robots[number] = SlowRobot(self.floor, self.match, number)

    def do_begin(self, number):
        refuse_unless(self.there(number).may())
        self.robots[number].begun = True

    def do_end(self, number):
        refuse_unless(self.there(number).begun)
        self.robots[number].end()

    def do_post(self, number):
        self.bag.append((-1, self.there(number).say()))

    def do_serve(self, number):
        refuse_unless(number in self.host.heard)
        self.bag.append((number, self.host.letter(number)))

    def in_bag(self, k):
        refuse_unless(0 <= k < len(self.bag))
        return self.bag[k]

    def do_bring(self, k):
        to, row = self.in_bag(k)
        del self.bag[k]
        if to == -1:
            return self.host.hear(row)
        if to not in self.robots:
            return None
        letter = slow_rows.read_letter(self.match, len(self.homes), row)
        return self.robots[to].hear(*letter[1:]) if letter is not None and letter[0] == "tell" else "none"

    def do_lose(self, k):
        self.in_bag(k)
        del self.bag[k]

    def do_double(self, k):
        self.bag.append(self.in_bag(k))

    def do_spoil(self, k, at, byte):
        to, row = self.in_bag(k)
        refuse_unless(0 <= at < len(row) and 0 <= byte <= 255)
        bytes_now = list(row)
        bytes_now[at] = byte
        self.bag[k] = (to, tuple(bytes_now))

    def do_send(self, to, row):
        refuse_unless(-1 <= to < len(self.homes) and slow_rows.is_row(row))
        self.bag.append((to, row))

    def do_cut(self, number, side):
        robot = self.there(number)
        refuse_unless(side in (0, 1))
        if robot.begun and side == 1:
            robot.end()
        robot.begun = False

    def do_back(self):
        self.host = SlowHost(self.floor, self.match, self.host.entries)

    def round_trip(self):
        numbers = sorted(self.robots)
        for number in numbers:
            self.do_post(number)
        while self.bag:
            self.do_bring(0)
        for number in numbers:
            self.do_serve(number)
        while self.bag:
            self.do_bring(0)
        many = 0
        for number in numbers:
            robot = self.robots[number]
            if robot.begun or robot.may():
                robot.end()
                many += 1
        return many

    def told(self):
        """All that a net tells."""
        return {
            "entries": self.host.entries, "plan": laid(self.floor, self.host.entries)[0], "counts": self.host.counts(),
            "left": self.host.left(), "known": tuple(sorted(self.host.heard)), "robots": tuple(sorted(self.robots)),
            "where": self.where(), "meets": self.meets(), "bag": self.bag,
            "each": [self.robots[number].told() for number in sorted(self.robots)],
        }
