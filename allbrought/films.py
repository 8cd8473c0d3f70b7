"""Films: what robots did of a plan, event by event."""

from allbrought.doing import is_closed, led
from allbrought.errors import BadFilm, NoCounts, NoMoment
from allbrought.kinds import is_number_below, is_tuple_of
from allbrought.steps import Web, cells_amid

MOST_EVENTS = 100000
# the number of a word is its place
WORDS = ("begin", "end", "back")


class Film:
    """A plan and the events in which robots did its steps; it never changes."""

    def __init__(self, plan, events):
        if not isinstance(events, tuple) or len(events) > MOST_EVENTS:
            raise BadFilm(-1)
        for index, event in enumerate(events):
            if not _is_event(event, len(plan.tracks)):
                raise BadFilm(index)
        self.laid = plan
        self.events = events
        self._web = Web(plan)
        self._sights = tuple([
            _seen_along(track[0][1], row)
            for track, row in zip(plan.tracks, self._web.rows)
        ])

    def __eq__(self, other):
        return isinstance(other, Film) and self.laid == other.laid and self.events == other.events


def _is_event(thing, robots):
    return is_tuple_of(thing, 2) and thing[0] in WORDS and is_number_below(thing[1], robots)


def _seen_along(home, row):
    """The tuple of the pairs (cell, load) of a robot of this home behind 0, 1, 2 .. of its steps."""
    cell, load = home, None
    seen = [(cell, load)]
    for step in row:
        if step[0] == "go":
            cell = step[3]
        else:
            load = step[2] if step[0] == "take" else None
        seen.append((cell, load))
    return tuple(seen)


# A standing is a tuple, for each robot, of the pairs (how many ends it had, whether its last event was a begin).


def first_standing(film):
    """The standing ahead of the first event."""
    return ((0, False),) * len(film.laid.tracks)


def standing_behind(standing, event):
    """The standing behind an event."""
    word, robot = event
    many, _ = standing[robot]
    if word == "end":
        many += 1
    return standing[:robot] + ((many, word == "begin"),) + standing[robot + 1:]


def done_at(film, standing):
    """The tuple of how many steps robots did."""
    return tuple([min(many, len(row)) for (many, _), row in zip(standing, film._web.rows)])


def amid_at(film, standing):
    """The lot of the robots that are amid a step."""
    done = done_at(film, standing)
    return tuple([
        robot
        for robot, (_, is_begun) in enumerate(standing)
        if is_begun and done[robot] < len(film._web.rows[robot])
    ])


def held_at(film, standing):
    """The tuple of the lots of cells that robots hold."""
    done = done_at(film, standing)
    lots = [(film._sights[robot][many][0],) for robot, many in enumerate(done)]
    for robot in amid_at(film, standing):
        lots[robot] = cells_amid(lots[robot][0], film._web.rows[robot][done[robot]])
    return tuple(lots)


def check_moment(film, at):
    """See to it that a thing is the number of an event, or of how many there are."""
    if not is_number_below(at, len(film.events) + 1):
        raise NoMoment()


def _standing_ahead(film, at):
    check_moment(film, at)
    standing = first_standing(film)
    for event in film.events[:at]:
        standing = standing_behind(standing, event)
    return standing


def done_then(film, at):
    """The tuple of how many steps robots did ahead of an event."""
    return done_at(film, _standing_ahead(film, at))


def amid_then(film, at):
    """The lot of the robots that are amid a step ahead of an event."""
    return amid_at(film, _standing_ahead(film, at))


def held_then(film, at):
    """The tuple of the lots of cells that robots hold ahead of an event."""
    return held_at(film, _standing_ahead(film, at))


def brought(film, at):
    """The lot of the orders that were put ahead of an event."""
    rows = [row[:many] for row, many in zip(film._web.rows, done_then(film, at))]
    return tuple(sorted([step[2] for row in rows for step in row if step[0] == "put"]))


def loads(film, at):
    """The tuple, for each robot, of the order that it has taken and not put, None without."""
    return tuple([film._sights[robot][many][1] for robot, many in enumerate(done_then(film, at))])


def first_wrong(film):
    """The pair (index, word) of the first event that is wrong, None without."""
    standing = first_standing(film)
    for index, event in enumerate(film.events):
        if not _is_in_order(film, standing, event):
            return (index, "order")
        if event[0] == "begin" and not _is_ready(film, standing, event[1]):
            return (index, "early")
        standing = standing_behind(standing, event)
        if _do_meet(film, standing):
            return (index, "meets")
    return None


def _is_in_order(film, standing, event):
    word, robot = event
    is_amid = robot in amid_at(film, standing)
    if word != "begin":
        return is_amid
    return not is_amid and done_at(film, standing)[robot] < len(film._web.rows[robot])


def _is_ready(film, standing, robot):
    """Whether all that the next step of a robot hangs on is done."""
    done = done_at(film, standing)
    return all([number < done[other] for other, number in film._web.ahead[(robot, done[robot])]])


def _do_meet(film, standing):
    """Whether two robots hold one cell."""
    together = sorted([cell for lot in held_at(film, standing) for cell in lot])
    return any([cell == other for cell, other in zip(together, together[1:])])


def is_film(plan, thing):
    """Whether a thing is a film of this plan without a wrong event."""
    return isinstance(thing, Film) and thing.laid == plan and first_wrong(thing) is None


def played(plan, robots):
    """The film in which these robots begin and end their next steps, one behind the other."""
    # what it leads to is not asked for, just whether one of them is too early
    led(plan, (0,) * len(plan.tracks), robots)
    return _film_of(plan, robots)


def _film_of(plan, robots):
    return Film(plan, tuple([(word, robot) for robot in robots for word in ("begin", "end")]))


def _check_counts(web, done):
    if not is_tuple_of(done, len(web.rows)):
        raise NoCounts()
    if not all([is_number_below(many, len(row) + 1) for many, row in zip(done, web.rows)]):
        raise NoCounts()


def gap(plan, done):
    """The least step that is done and hangs on one that is not, None without."""
    web = Web(plan)
    _check_counts(web, done)
    gaps = [
        (robot, number)
        for robot, number in web.by_tick
        if number < done[robot] and any([before >= done[other] for other, before in web.ahead[(robot, number)]])
    ]
    return min(gaps, default=None)


def merged(plan, done):
    """A film without a wrong event behind which just so many steps are done, None if there is none."""
    web = Web(plan)
    _check_counts(web, done)
    if not is_closed(plan, done):
        return None
    # what a step hangs on has lesser ticks: so by ticks none is too early
    return _film_of(plan, [robot for robot, number in web.by_tick if number < done[robot]])
