"""The mind of a robot, which is led by letters."""

from allbrought.books import Book, add_as_taken
from allbrought.errors import NoEye, NoNumber, NoPast, NoRobot, NotBegun, NotYet
from allbrought.floors import homes
from allbrought.kinds import is_number, is_number_below, is_short, is_tuple_of
from allbrought.letters import read_letter, row_of_letter
from allbrought.steps import Web, cell_behind, cells_amid, load_behind, many_steps


def book_of_past(floor, number, past):
    """The book of a past that the robot of this number can have, None for what can't be one."""
    book = Book(floor)
    return book if is_past(floor, number, past) and grows_to(book, number, past) else None


def grows_to(book, number, past):
    """Add the entries of a past to a book of the first ones; whether the robot of this number can have this past.

    The past is known to be a tuple as is_past asks for.
    """
    entries, _, done, begun = past
    more = entries[len(book.entries()):]
    if add_as_taken(book, more) < len(more):
        return False
    # a step that is begun is one more that the plan must have
    many = done + 1 if begun else done
    return many <= many_steps(book.plan(), number)


def past_of_new(floor):
    """The past of a robot that heard and did nothing yet."""
    return ((), (0,) * len(homes(floor)), 0, False)


def is_past(floor, number, thing):
    """Whether a thing is a tuple (entries, counts, done, begun), whatever the entries are."""
    if not is_tuple_of(thing, 4):
        return False
    entries, counts, done, begun = thing
    return (
        isinstance(entries, tuple)
        and is_tuple_of(counts, len(homes(floor)))
        and all([is_short(count) for count in counts])
        and is_number(done)
        and counts[number] == done
        and isinstance(begun, bool)
    )


def _is_eye(thing):
    """Whether a thing is a pair (cell, load)."""
    return is_tuple_of(thing, 2) and is_number(thing[0]) and (thing[1] is None or is_number(thing[1]))


class Robot:
    """What a robot heard of the book and of others, and what it did of its plan."""

    def __init__(self, floor, match, number, past, eye):
        if not is_short(match):
            raise NoNumber()
        if not is_number_below(number, len(homes(floor))):
            raise NoRobot()
        known = past_of_new(floor) if past is None else past
        book = book_of_past(floor, number, known)
        if book is None:
            raise NoPast()
        _, counts, done, begun = known
        self._floor = floor
        self._match = match
        self._number = number
        self._book = book
        self._web = Web(book.plan())
        self._counts = list(counts)
        self._done = done
        self._begun = begun
        self._settle(eye)

    def _settle(self, eye):
        """Settle by the eye whether a step that is begun is done or taken back."""
        if eye is None and not self._begun:
            return
        if not _is_eye(eye):
            raise NoEye()
        is_done = self._begun and eye == self._seen(self._done + 1)
        if not is_done and eye != self._seen(self._done):
            raise NoEye()
        self._begun = False
        if is_done:
            self._one_more_done()

    def _one_more_done(self):
        self._done += 1
        self._counts[self._number] = self._done

    def _seen(self, done):
        """The pair (cell, load) that an eye tells when so many steps are done."""
        row = self._web.rows[self._number][:done]
        return (cell_behind(homes(self._floor)[self._number], row), load_behind(row))

    def book(self):
        """A copy of the book of the entries that it heard."""
        return self._book.copy()

    def plan(self):
        """The plan of what it heard."""
        return self._book.plan()

    def past(self):
        """The tuple (entries, counts, done, begun) of all that it knows."""
        return (tuple(self._book.entries()), self.counts(), self._done, self._begun)

    def done(self):
        """How many of its steps are done."""
        return self._done

    def counts(self):
        """The tuple, for each robot, of how many of its steps are heard to be done, its own being done."""
        return tuple(self._counts)

    def step(self):
        """The next step of its plan, None if there is none."""
        row = self._web.rows[self._number]
        return row[self._done] if self._done < len(row) else None

    def lacks(self):
        """The ascending tuple of what the next step hangs on and is not heard to be done, None without a step."""
        if self.step() is None:
            return None
        ahead = self._web.ahead[(self._number, self._done)]
        return tuple([(robot, number) for robot, number in ahead if number >= self._counts[robot]])

    def may(self):
        """Whether it may begin its next step."""
        return not self._begun and self.lacks() == ()

    def begin(self):
        """Begin the next step."""
        if not self.may():
            raise NotYet()
        self._begun = True

    def end(self):
        """Have the step that is begun done."""
        if not self._begun:
            raise NotBegun()
        self._begun = False
        self._one_more_done()

    def cells(self):
        """The ascending tuple of the cells in which its body can be."""
        cell, _ = self._seen(self._done)
        return cells_amid(cell, self.step()) if self._begun else (cell,)

    def load(self):
        """The number of the order whose load its body has, None without."""
        _, load = self._seen(self._done)
        return load

    def hear(self, thing):
        """Hear a letter: "none" for what is none to a robot of this match, "new" if it tells new things, else "old"."""
        letter = read_letter(self._floor, self._match, thing)
        if letter is None or letter[0] != "tell":
            return "none"
        _, counts, first, entries = letter
        ahead = self.past()
        self._hear_counts(counts)
        self._hear_entries(first, entries)
        return "old" if self.past() == ahead else "new"

    def _hear_counts(self, counts):
        for robot, count in enumerate(counts):
            if robot != self._number:
                self._counts[robot] = max(count, self._counts[robot])

    def _hear_entries(self, first, entries):
        known = len(self._book.entries())
        if first <= known and add_as_taken(self._book, entries[known - first:]) > 0:
            self._web = Web(self._book.plan())

    def say(self):
        """The row of its letter: a saying of what it heard and did."""
        heard = len(self._book.entries())
        return row_of_letter(self._match, ("say", self._number, heard, self._done, self.counts()))


def eye_of(robot, side):
    """The pair (cell, load) that the eye of a robot's body tells.

    If a step is begun, the body is as ahead of it for side 0, as behind it for side 1.
    """
    _, _, done, begun = robot.past()
    return robot._seen(done + side if begun else done)


def is_robot_of(floor, match, thing):
    """Whether a thing is a robot of this floor and match."""
    return isinstance(thing, Robot) and thing._floor == floor and thing._match == match


def number_of(robot):
    """The number that a robot was made with."""
    return robot._number
