"""The host, which keeps the book and tells robots of it by letters."""

from allbrought.books import Book, is_book_of
from allbrought.errors import NoBook, NoNumber, NoRobot
from allbrought.floors import homes
from allbrought.kinds import is_number, is_short
from allbrought.letters import MOST_TOLD, read_letter, row_of_letter
from allbrought.steps import many_steps


class Host:
    """A book of a floor, what robots say of their steps, and what they heard of the book."""

    def __init__(self, floor, match, book):
        if not is_short(match):
            raise NoNumber()
        if book is not None and not is_book_of(floor, book):
            raise NoBook()
        self._floor = floor
        self._match = match
        self._book = Book(floor) if book is None else book.copy()
        self._counts = [0] * len(homes(floor))
        self._heard = {}

    def book(self):
        """A copy of the book."""
        return self._book.copy()

    def add(self, entry):
        """Put one more entry behind the others; return its number."""
        return self._book.add(entry)

    def plan(self):
        """The plan of the book."""
        return self._book.plan()

    def counts(self):
        """The tuple, for each robot, of how many of its steps are said to be done."""
        return tuple(self._counts)

    def left(self):
        """How many steps of the plan are not said to be done."""
        plan = self._book.plan()
        return sum([many_steps(plan, robot) - said for robot, said in enumerate(self._counts)])

    def hear(self, thing):
        """Hear a letter: "none" for what is none to a host of this match, "new" if counts grew, otherwise "old"."""
        letter = read_letter(self._floor, self._match, thing)
        if letter is None or letter[0] != "say":
            return "none"
        _, robot, heard, done, _ = letter
        if done > many_steps(self._book.plan(), robot):
            return "none"
        self._heard[robot] = max(heard, self._heard.get(robot, 0))
        if done <= self._counts[robot]:
            return "old"
        self._counts[robot] = done
        return "new"

    def known(self):
        """The ascending tuple of the robots that were heard of."""
        return tuple(sorted(self._heard))

    def letter(self, robot):
        """The row of a telling to a known robot: of the counts, and of the entries behind those that it heard."""
        if not is_number(robot) or robot not in self._heard:
            raise NoRobot()
        first = self._heard[robot]
        entries = tuple(self._book.entries()[first:first + MOST_TOLD])
        return row_of_letter(self._match, ("tell", self.counts(), first, entries))


def is_host_of(floor, match, thing):
    """Whether a thing is a host of this floor and match."""
    return isinstance(thing, Host) and thing._floor == floor and thing._match == match
