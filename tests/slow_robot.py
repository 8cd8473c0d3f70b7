"""The document's words on the mind of a robot, written apart from the package."""

from tests import slow, slow_rows

_LAID = {}


def laid(floor, entries):
    """The plain plan of some entries, the steps of each robot, and what they hang on."""
    key = (floor.rows, tuple(entries))
    if key not in _LAID:
        plan = slow.plain(floor, list(entries))
        rows = [slow.steps_of(plan, robot) for robot in range(len(plan.tracks))]
        _LAID[key] = (plan, rows, slow.hangings(plan))
    return _LAID[key]


def is_taken(floor, entries, entry):
    """Whether a book of these entries takes one more, of right form."""
    robots, stations = len(slow.cells_with(floor, "H")), len(slow.cells_with(floor, "S"))
    inside = set(range(robots))
    for word, what in entries:
        if word != "orders":
            inside ^= {what}
    word, what = entry
    if len(entries) == 400:
        return False
    if word == "orders":
        many = sum(len(other) for its_word, other in entries if its_word == "orders") + len(what)
        return bool(inside) and many <= 100 and all(number < stations for pair in what for number in pair)
    return what < robots and (what in inside) == (word == "out")


class SlowRobot:
    def __init__(self, floor, match, number):
        self.floor, self.match, self.number = floor, match, number
        self.entries, self.done, self.begun = [], 0, False
        self.counts = [0] * len(slow.cells_with(floor, "H"))

    def plan(self):
        return laid(self.floor, self.entries)[0]

    def row(self):
        return laid(self.floor, self.entries)[1][self.number]

    def step(self):
        return dict(enumerate(self.row())).get(self.done)

    def lacks(self):
        if self.step() is None:
            return None
        names = laid(self.floor, self.entries)[2][(self.number, self.done)]
        return tuple(
            (robot, number) for robot, number in names if robot != self.number and not number < self.counts[robot]
        )

    def may(self):
        return self.step() is not None and not self.begun and self.lacks() == ()

    def eye(self, done=None):
        """What an eye tells when so many steps are done."""
        cell, load = slow.cells_with(self.floor, "H")[self.number], None
        for step in self.row()[:self.done if done is None else done]:
            if step[0] == "go":
                cell = step[3]
            else:
                load = step[2] if step[0] == "take" else None
        return cell, load

    def cells(self):
        if self.begun and self.step()[0] == "go":
            return tuple(sorted(self.step()[2:]))
        return (self.eye()[0],)

    def end(self):
        self.begun = False
        self.done += 1
        self.counts[self.number] += 1

    def hear(self, counts, first, entries):
        """Hear a right telling of this match."""
        kept = (list(self.entries), list(self.counts))
        for robot, count in enumerate(counts):
            if robot != self.number and count > self.counts[robot]:
                self.counts[robot] = count
        for number, entry in enumerate(entries, first):
            if number > len(self.entries):
                break
            if number == len(self.entries):
                if not is_taken(self.floor, self.entries, entry):
                    break
                self.entries.append(entry)
        return "old" if kept == (self.entries, self.counts) else "new"

    def past(self):
        return (tuple(self.entries), tuple(self.counts), self.done, self.begun)

    def say(self):
        told = ("say", self.number, len(self.entries), self.done, tuple(self.counts))
        return slow_rows.letter(self.match, told)

    def told(self):
        """All that a robot tells, as a dict by the names of its methods."""
        return {
            "plan": self.plan(), "past": self.past(), "done": self.done, "counts": tuple(self.counts),
            "step": self.step(), "lacks": self.lacks(), "may": self.may(), "cells": self.cells(), "load": self.eye()[1],
            "say": self.say(),
        }
