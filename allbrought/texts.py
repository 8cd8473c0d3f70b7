"""Texts of floors, books and plans."""

from allbrought.books import book_of
from allbrought.entries import MOST_PAIRS, orders_of
from allbrought.errors import BadText, NoPlan
from allbrought.floors import Floor, check_well_formed, homes
from allbrought.marks import mark
from allbrought.plans import is_plan
from allbrought.tracks import Plan

FIGURES = "0123456789"
MOST_FIGURES = 9


def number_in(word):
    """The number that a word tells, None for a word that tells none."""
    if not 1 <= len(word) <= MOST_FIGURES or not all([sign in FIGURES for sign in word]):
        return None
    return None if word[0] == "0" and len(word) > 1 else int(word)


def _numbers_in(words):
    """The tuple of the numbers that words tell, None if one of them tells none."""
    numbers = tuple([number_in(word) for word in words])
    return None if None in numbers else numbers


def _pairs_in(numbers):
    return tuple(zip(numbers[::2], numbers[1::2]))


def _line(words):
    """The line of these words and numbers."""
    return " ".join([str(word) for word in words]) + "\n"


def _lines_in(text):
    """The list of the lines of a text, and what stands behind the last line feed."""
    if not isinstance(text, str):
        raise BadText(0)
    parts = text.split("\n")
    return parts[:-1], parts[-1]


def floor_text(floor):
    """The text of the rows of a floor."""
    return "".join([row + "\n" for row in floor.rows])


def read_floor(text):
    """The floor of which this is the text."""
    lines, rest = _lines_in(text)
    if rest != "":
        raise BadText(len(lines) + 1)
    return Floor(tuple(lines))


def floor_mark(floor):
    """The mark of the numbers of the signs of a floor's text."""
    return mark(tuple([ord(sign) for sign in floor_text(floor)]))


def book_text(book):
    """The text of the entries of a book."""
    return "".join([_entry_line(word, what) for word, what in book.entries()])


def _entry_line(word, what):
    if word != "orders":
        return _line([word, what])
    return _line(["order"] + [number for pair in what for number in pair])


def read_book_text(floor, text):
    """The book of the floor of which this is the text."""
    check_well_formed(floor)
    lines, rest = _lines_in(text)
    entries = [_entry_in(line) for line in lines]
    if None in entries:
        raise BadText(entries.index(None) + 1)
    if rest != "":
        raise BadText(len(lines) + 1)
    return book_of(floor, entries)


def _entry_in(line):
    """The entry that a line tells, by its form; None for a line that tells none."""
    words = line.split(" ")
    numbers = _numbers_in(words[1:])
    if numbers is None:
        return None
    if words[0] == "order" and len(numbers) % 2 == 0 and 1 <= len(numbers) // 2 <= MOST_PAIRS:
        return ("orders", _pairs_in(numbers))
    return (words[0], numbers[0]) if words[0] in ("out", "in") and len(numbers) == 1 else None


def plan_text(plan):
    """The text of the tracks and jobs of a plan."""
    lines = [_line(["robot"] + [number for pair in track for number in pair]) for track in plan.tracks]
    return "".join(lines + [_line(("job",) + job) for job in plan.jobs])


def read_plan(floor, entries, text):
    """The plan of these entries of which this is the text."""
    lines, rest = _lines_in(text)
    robots = len(homes(floor))
    many = robots + len(orders_of(entries))
    tracks = [_track_in(line) for line in lines[:robots]]
    jobs = [_job_in(line) for line in lines[robots:many]]
    if None in tracks + jobs:
        raise BadText((tracks + jobs).index(None) + 1)
    # what is left behind the last line that can stand there is as wrong as a line that lacks
    if len(lines) != many or rest != "":
        raise BadText(min(len(lines), many) + 1)
    plan = Plan(tuple(tracks), tuple(jobs))
    if not is_plan(floor, entries, plan):
        raise NoPlan()
    return plan


def _track_in(line):
    """The track that a line tells, by its form; None for a line that tells none."""
    words = line.split(" ")
    numbers = _numbers_in(words[1:])
    if words[0] != "robot" or not numbers or len(numbers) % 2 == 1:
        return None
    return _pairs_in(numbers)


def _job_in(line):
    """The job that a line tells, by its form; None for a line that tells none."""
    words = line.split(" ")
    return _numbers_in(words[1:]) if words[0] == "job" and len(words) == 5 else None
