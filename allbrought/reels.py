"""Rows of films, and reels by which films are looked at."""

from allbrought.errors import BadRow, NoNumber, NoRow
from allbrought.films import MOST_EVENTS, WORDS, Film, check_moment, done_at, first_standing, held_at, standing_behind
from allbrought.kinds import is_number
from allbrought.rows import is_row, whole, whole_at

MOST_EVERY = 500


def film_row(film):
    """The row of the events of a film."""
    row = list(whole(len(film.events)))
    for word, robot in film.events:
        row.append(WORDS.index(word))
        row.extend(whole(robot))
    return tuple(row)


def read_film(plan, row):
    """The film of this plan of which this is the row."""
    if not is_row(row):
        raise NoRow()
    many, at = whole_at(row, 0)
    if many > MOST_EVENTS:
        raise BadRow(0)
    events = []
    while len(events) < many:
        event, at = _event_at(plan, row, at)
        events.append(event)
    if at < len(row):
        raise BadRow(at)
    return Film(plan, tuple(events))


def _event_at(plan, row, at):
    """The pair (event, place behind it) of the event that stands at a place of a row."""
    if at == len(row) or row[at] >= len(WORDS):
        raise BadRow(at)
    robot, behind = whole_at(row, at + 1)
    if robot >= len(plan.tracks):
        raise BadRow(at + 1)
    return ((WORDS[row[at]], robot), behind)


class Reel:
    """A film that stands ahead of an event, and keeps standings, so that it comes back to them soon."""

    def __init__(self, film, every):
        if not is_number(every) or not 1 <= every <= MOST_EVERY:
            raise NoNumber()
        self._film = film
        self._every = every
        self._at = 0
        self._standings = {0: first_standing(film)}
        self._now = self._standings[0]
        self._steps = 0

    def stands(self):
        """The number of the event ahead of which it stands."""
        return self._at

    def cells_now(self):
        """The tuple of the lots of cells that robots hold there."""
        return held_at(self._film, self._now)

    def done_now(self):
        """The tuple of how many steps robots did up to there."""
        return done_at(self._film, self._now)

    def seek(self, at):
        """Stand ahead of this event."""
        check_moment(self._film, at)
        start = self._greatest_kept(at)
        now = self._standings[start]
        if start <= self._at <= at:
            start, now = self._at, self._now
        for number, event in enumerate(self._film.events[start:at], start + 1):
            now = standing_behind(now, event)
            if number % self._every == 0:
                self._standings[number] = now
        self._at = at
        self._now = now
        self._steps = at - start

    def _greatest_kept(self, at):
        """The greatest number up to this one of which a standing is kept."""
        number = at - at % self._every
        while number not in self._standings:
            number -= self._every
        return number

    def kept(self):
        """The ascending tuple of the numbers of the events of which it keeps standings."""
        return tuple(sorted(self._standings))

    def worked(self):
        """How many events the last seek went through."""
        return self._steps

    def copy(self):
        """Another reel of this film that stands there, and goes on apart."""
        other = Reel(self._film, self._every)
        other._at = self._at
        other._standings = {number: standing for number, standing in self._standings.items()}
        other._now = self._now
        other._steps = self._steps
        return other
