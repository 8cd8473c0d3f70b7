"""The document's words on films, event by event, written apart from the package."""

import functools

from tests import slow

_KNOWN = {}


def known(plan):
    """The steps of each robot and what they hang on."""
    key = (plan.tracks, plan.jobs)
    if key not in _KNOWN:
        _KNOWN[key] = ([slow.steps_of(plan, robot) for robot in range(len(plan.tracks))], slow.hangings(plan))
    return _KNOWN[key]


def done_ahead(plan, events):
    rows = known(plan)[0]
    return tuple(
        min(sum(1 for word, who in events if word == "end" and who == robot), len(row)) for robot, row in enumerate(rows)
    )


def amid(plan, events):
    rows, done = known(plan)[0], done_ahead(plan, events)
    lasts = {who: word for word, who in events}
    return tuple(robot for robot, row in enumerate(rows) if lasts.get(robot) == "begin" and done[robot] < len(row))


def cell_of(plan, robot, many):
    cells = [step[3] for step in known(plan)[0][robot][:many] if step[0] == "go"]
    return cells[-1] if cells else plan.tracks[robot][0][1]


def held(plan, events):
    lots = []
    for robot, many in enumerate(done_ahead(plan, events)):
        row = known(plan)[0][robot]
        if robot in amid(plan, events) and row[many][0] == "go":
            lots.append(tuple(sorted(row[many][2:])))
        else:
            lots.append((cell_of(plan, robot, many),))
    return tuple(lots)


def brought(plan, events):
    rows = known(plan)[0]
    done = done_ahead(plan, events)
    return tuple(sorted(step[2] for row, many in zip(rows, done) for step in row[:many] if step[0] == "put"))


def loads(plan, events):
    rows = known(plan)[0]
    found = []
    for row, many in zip(rows, done_ahead(plan, events)):
        taken = [step[2] for step in row[:many] if step[0] == "take"]
        put = [step[2] for step in row[:many] if step[0] == "put"]
        left = [order for order in taken if order not in put]
        assert len(left) <= 1
        found.append(left[0] if left else None)
    return tuple(found)


def first_wrong(plan, events):
    rows, hung = known(plan)
    for index, (word, robot) in enumerate(events):
        ahead = events[:index]
        is_amid = robot in amid(plan, ahead)
        done = done_ahead(plan, ahead)
        if word == "begin" and (is_amid or done[robot] == len(rows[robot])) or word != "begin" and not is_amid:
            return (index, "order")
        if word == "begin" and any(number >= done[other] for other, number in hung[(robot, done[robot])]):
            return (index, "early")
        together = [cell for lot in held(plan, events[:index + 1]) for cell in lot]
        if len(set(together)) < len(together):
            return (index, "meets")
    return None


def right_events(chance, plan, many):
    """Right events, so many or fewer if all is done, taken at random."""
    rows, hung = known(plan)
    done, begun, events = [0] * len(rows), set(), []
    while len(events) < many:
        able = [
            robot for robot, row in enumerate(rows) if robot not in begun and done[robot] < len(row)
            and all(number < done[other] for other, number in hung[(robot, done[robot])])
        ]
        if not able and not begun:
            break
        robot = chance.choice(able + sorted(begun))
        if robot not in begun:
            events.append(("begin", robot))
            begun.add(robot)
        elif chance.random() < 0.8:
            events.append(("end", robot))
            begun.discard(robot)
            done[robot] += 1
        else:
            events.append(("back", robot))
            begun.discard(robot)
    return tuple(events)


@functools.lru_cache(maxsize=None)
def whole(number):
    figures = [number % 128]
    while number >= 128:
        number //= 128
        figures.append(number % 128)
    return tuple(figure + 128 for figure in figures[:-1]) + (figures[-1],)


def row_of(events):
    row = whole(len(events))
    for word, robot in events:
        row += ({"begin": 0, "end": 1, "back": 2}[word],) + whole(robot)
    return row
