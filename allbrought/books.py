"""Books of orders."""

from allbrought.entries import is_entry, orders_of, robots_inside
from allbrought.errors import BadEntry, Full, IsIn, IsOut, NoEntry, NoneIn
from allbrought.floors import check_well_formed, homes
from allbrought.laying import laid_behind, nothing_laid, plan_laid

MOST_ORDERS = 100
MOST_ENTRIES = 400


class Book:
    """Entries, one behind another, on a well formed floor; none is ever forgotten."""

    def __init__(self, floor):
        check_well_formed(floor)
        self._floor = floor
        self._entries = []
        # plans grow only at their ends: so what was laid once stays, and the rest is laid when it is asked for
        self._laid = nothing_laid(floor)
        self._many_laid = 0

    def add(self, entry):
        """Put one more entry behind the others; return its number."""
        if not is_entry(self._floor, entry):
            raise NoEntry()
        word, what = entry
        inside = self.robots_in()
        if word == "orders" and inside == ():
            raise NoneIn()
        if self._is_full_for(entry):
            raise Full()
        if word == "out" and what not in inside:
            raise IsOut()
        if word == "in" and what in inside:
            raise IsIn()
        self._entries.append(entry)
        return len(self._entries) - 1

    def _is_full_for(self, entry):
        many = len(self.orders()) + len(orders_of([entry]))
        return many > MOST_ORDERS or len(self._entries) >= MOST_ENTRIES

    def entries(self):
        """The list of all entries."""
        return list(self._entries)

    def orders(self):
        """The list of the triples (one, other, number of the entry) of all orders."""
        return orders_of(self._entries)

    def robots_in(self):
        """The lot of the robots that are in."""
        return robots_inside(len(homes(self._floor)), self._entries)

    def plan(self):
        """The plain plan of the entries."""
        self._laid = laid_behind(self._laid, self._entries[self._many_laid:])
        self._many_laid = len(self._entries)
        return plan_laid(self._laid)

    def copy(self):
        """Another book with these entries, that goes on apart."""
        other = Book(self._floor)
        other._entries = list(self._entries)
        other._laid = self._laid
        other._many_laid = self._many_laid
        return other


def book_of(floor, entries):
    """The book of these entries, a list or tuple."""
    book = Book(floor)
    if not isinstance(entries, (list, tuple)):
        raise BadEntry(-1)
    many = add_as_taken(book, entries)
    if many < len(entries):
        raise BadEntry(many)
    return book


def add_as_taken(book, entries):
    """Add entries one by one, as far as the book takes them; return how many it took."""
    for many, entry in enumerate(entries):
        try:
            book.add(entry)
        except (NoEntry, NoneIn, Full, IsOut, IsIn):
            return many
    return len(entries)


def is_book_of(floor, thing):
    """Whether a thing is a book of this floor."""
    return isinstance(thing, Book) and thing._floor == floor
