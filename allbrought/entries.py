"""What entries of a book are, and what right ones say, one behind another."""

from allbrought.floors import homes, stations
from allbrought.kinds import is_number_below, is_tuple_of

MOST_PAIRS = 6


def is_entry(floor, thing):
    """Whether a thing is an entry of a book of the floor."""
    return is_formed(thing, len(stations(floor)), len(homes(floor)))


def is_formed(thing, many, robots):
    """Whether a thing has the form of an entry, for so many stations and robots."""
    if not is_tuple_of(thing, 2) or not isinstance(thing[0], str):
        return False
    if thing[0] == "orders":
        return _are_pairs(thing[1], many)
    return thing[0] in ("out", "in") and is_number_below(thing[1], robots)


def _are_pairs(thing, many):
    if not isinstance(thing, tuple) or not 1 <= len(thing) <= MOST_PAIRS:
        return False
    return all([_is_pair(pair, many) for pair in thing])


def _is_pair(thing, many):
    return is_tuple_of(thing, 2) and all([is_number_below(item, many) for item in thing])


def is_order(floor, thing):
    """Whether a thing is a pair of numbers of stations."""
    return _is_pair(thing, len(stations(floor)))


def orders_of(entries):
    """The list of the triples (one, other, number of the entry) of all orders."""
    return [
        (one, other, number)
        for number, (word, what) in enumerate(entries)
        if word == "orders"
        for one, other in what
    ]


def robots_inside(many, entries):
    """The lot of those of so many robots that are in behind these entries."""
    inside = [True] * many
    for word, what in entries:
        if word != "orders":
            inside[what] = word == "in"
    return tuple([robot for robot in range(many) if inside[robot]])
