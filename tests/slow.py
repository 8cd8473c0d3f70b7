"""The document's words, tick by tick and path by path: slow, and written apart from the package."""

from itertools import count

from allbrought.floors import Floor
from allbrought.tracks import Plan


def grid(floor):
    """The cells (row, column) of a floor, with the sign of each."""
    return [
        ((row, column), sign)
        for row, signs in enumerate(floor.rows)
        for column, sign in enumerate(signs)
        if sign != "#"
    ]


def cells_with(floor, sign):
    return [number for number, (_, found) in enumerate(grid(floor)) if found == sign]


def beside(floor, one, other):
    (row, column), (its_row, its_column) = grid(floor)[one][0], grid(floor)[other][0]
    return abs(row - its_row) + abs(column - its_column) == 1


_NEAR = {}


def near(floor, cell):
    """The cells beside a cell, ascending."""
    key = (floor.rows, cell)
    if key not in _NEAR:
        _NEAR[key] = [other for other in range(len(grid(floor))) if beside(floor, cell, other)]
    return _NEAR[key]


def open_cells(floor, robot):
    others = [home for number, home in enumerate(cells_with(floor, "H")) if number != robot]
    return [cell for cell in range(len(grid(floor))) if cell not in others]


def fewest_steps(floor, allowed, one, other):
    """Between two cells through the allowed ones, by making a set greater step by step; None without."""
    reached = {one}
    for steps in count():
        if other in reached:
            return steps
        more = {then for cell in reached for then in near(floor, cell) if then in allowed} | reached
        if more == reached:
            return None
        reached = more


def cell_at(track, tick):
    return [cell for first, cell in track if first <= tick][-1]


def greatest_tick(tracks):
    return max(tick for track in tracks for tick, _ in track)


def clash(tracks):
    """The least (tick, later, robot, other), by trying all in order."""
    robots = range(len(tracks))
    for tick in range(greatest_tick(tracks) + 2):
        for later in (tick, tick + 1):
            for robot in robots:
                for other in robots:
                    if other != robot and cell_at(tracks[robot], tick) == cell_at(tracks[other], later):
                        return (tick, later, robot, other)
    return None


def runs(tracks, cell, robot):
    """The stretches of a cell for a robot, by a look at each tick; all behind the last one are as the last."""
    others = [track for number, track in enumerate(tracks) if number != robot]

    def is_free(tick):
        near_ticks = [then for then in (tick - 1, tick, tick + 1) if then >= 0]
        return not any(cell_at(track, then) == cell for track in others for then in near_ticks)

    end = greatest_tick(tracks) + 3
    found = []
    for tick in range(end + 1):
        if is_free(tick):
            if tick > 0 and is_free(tick - 1):
                found[-1] = (found[-1][0], tick)
            else:
                found.append((tick, tick))
    if found and found[-1][1] == end:
        found[-1] = (found[-1][0], None)
    return found


def job_made(cell_of, start, end, one, other, home):
    """The (take, put, home) made by what cell_of tells of ticks from start to end; None if not all by then."""
    take = next((t for t in range(start, end) if cell_of(t) == cell_of(t + 1) == one), None)
    if take is None:
        return None
    put = next((t for t in range(take + 1, end) if cell_of(t) == cell_of(t + 1) == other), None)
    if put is None:
        return None
    back = next((t for t in range(put + 1, end + 1) if cell_of(t) == home), None)
    return None if back is None else (take, put, back)


def orders_told(floor, entries):
    """The list of (one, other, entry, robots in then) of all orders."""
    inside = set(range(len(cells_with(floor, "H"))))
    told = []
    for number, (word, what) in enumerate(entries):
        if word == "orders":
            told.extend((one, other, number, sorted(inside)) for one, other in what)
        elif word == "out":
            inside.discard(what)
        else:
            inside.add(what)
    return told


def is_number(thing):
    return isinstance(thing, int) and not isinstance(thing, bool) and thing >= 0


def is_track(floor, robot, thing):
    if not isinstance(thing, tuple) or len(thing) == 0:
        return False
    for pair in thing:
        if not isinstance(pair, tuple) or len(pair) != 2 or not all(map(is_number, pair)):
            return False
        if pair[1] not in open_cells(floor, robot):
            return False
    if thing[0] != (0, cells_with(floor, "H")[robot]):
        return False
    return all(
        thing[at][0] < thing[at + 1][0] and thing[at + 1][1] in near(floor, thing[at][1])
        for at in range(len(thing) - 1)
    )


def judged(floor, entries, thing):
    """Whether a thing is a plan of the entries; ticks must be small."""
    homes, stations = cells_with(floor, "H"), cells_with(floor, "S")
    if not isinstance(thing, Plan) or not isinstance(thing.tracks, tuple) or len(thing.tracks) != len(homes):
        return False
    if not all(is_track(floor, robot, track) for robot, track in enumerate(thing.tracks)):
        return False
    told = orders_told(floor, entries)
    if not isinstance(thing.jobs, tuple) or len(thing.jobs) != len(told):
        return False
    end = greatest_tick(thing.tracks) + 2
    last_homes = [0] * len(homes)
    ways = []
    for job, (one, other, entry, inside) in zip(thing.jobs, told):
        if not isinstance(job, tuple) or len(job) != 4 or not all(map(is_number, job)) or job[0] not in inside:
            return False
        robot = job[0]
        start = last_homes[robot]

        def cell_of(tick, track=thing.tracks[robot]):
            return cell_at(track, tick)

        if job[1:] != job_made(cell_of, start, end, stations[one], stations[other], homes[robot]):
            return False
        ways.append((entry, robot, {tick: cell_of(tick) for tick in range(start, job[3] + 1)}))
        last_homes[robot] = job[3]
    for robot, track in enumerate(thing.tracks):
        mine = [job for job in thing.jobs if job[0] == robot]
        ended = bool(mine) and track[-1] == (mine[-1][3], homes[robot])
        if not ended and track != ((0, homes[robot]),):
            return False
    return clash(thing.tracks) is None and _in_turn(ways)


def _in_turn(ways):
    for entry, robot, way in ways:
        for later, other, its_way in ways:
            if later > entry and robot != other:
                for cell in set(way.values()) & set(its_way.values()):
                    greatest = max(tick for tick in way if way[tick] == cell)
                    if greatest >= min(tick for tick in its_way if its_way[tick] == cell):
                        return False
    return True


class Ways:
    """The ways of orders that are laid: triples (entry, robot, dict from ticks to cells)."""

    def __init__(self, floor):
        self.floor = floor
        self.homes = cells_with(floor, "H")
        self.stations = cells_with(floor, "S")
        self.ways = []
        self.tracks = [[(0, home)] for home in self.homes]
        self.jobs = []

    def start(self, robot):
        return max([job[3] for job in self.jobs if job[0] == robot], default=0)

    def barred(self, entry, robot):
        """A function that tells whether a cell is barred to a robot at a tick, for an order of an entry."""
        until, at = {}, set()
        for number, other, way in self.ways:
            for tick, cell in way.items():
                if other != robot and cell != self.homes[other]:
                    if number < entry:
                        until[cell] = max(until.get(cell, 0), tick + 1)
                    else:
                        at |= {(cell, tick - 1), (cell, tick), (cell, tick + 1)}
        return lambda cell, tick: until.get(cell, -1) >= tick or (cell, tick) in at

    def best(self, entry, robot, order):
        """The pair (home tick, row), by trying home ticks one by one and rows from the least on."""
        start = self.start(robot)
        is_barred = self.barred(entry, robot)
        one, other, home = self.stations[order[0]], self.stations[order[1]], self.homes[robot]
        allowed = open_cells(self.floor, robot)
        for end in count(start + 1):
            lost = set()

            def row_from(row, stage):
                tick = start + len(row) - 1
                if stage == 2 and row[-1] == home:
                    return row if tick == end else None
                if tick == end or (tick, row[-1], stage) in lost:
                    return None
                for cell in sorted([row[-1]] + near(self.floor, row[-1])):
                    if cell in allowed and not is_barred(cell, tick + 1):
                        paused = cell == row[-1] == (one, other, None)[stage]
                        found = row_from(row + (cell,), stage + paused)
                        if found is not None:
                            return found
                lost.add((tick, row[-1], stage))
                return None

            found = row_from((home,), 0)
            if found is not None:
                return (end, found)

    def best_of_all_rows(self, entry, robot, order):
        """As best, but by making every row, and its job by the words: for the least floors alone."""
        start = self.start(robot)
        is_barred = self.barred(entry, robot)
        route = (self.stations[order[0]], self.stations[order[1]], self.homes[robot])
        allowed = open_cells(self.floor, robot)
        rows = [(self.homes[robot],)]
        for end in count(start + 1):
            rows = [
                row + (cell,)
                for row in rows
                for cell in [row[-1]] + near(self.floor, row[-1])
                if cell in allowed and not is_barred(cell, end)
            ]
            made = [
                row for row in rows
                if (job_made(lambda tick: row[tick - start], start, end, *route) or (0, 0, -1))[2] == end
            ]
            if made:
                return (end, min(made))

    def lay(self, entry, inside, order):
        best = [self.best(entry, robot, order) + (robot,) for robot in inside]
        end, row, robot = min(best, key=lambda found: (found[0], found[2]))
        start = self.start(robot)
        self.ways.append((entry, robot, {start + at: cell for at, cell in enumerate(row)}))
        for at in range(1, len(row)):
            if row[at] != row[at - 1]:
                self.tracks[robot].append((start + at, row[at]))
        one, other = self.stations[order[0]], self.stations[order[1]]
        made = job_made(lambda tick: row[tick - start], start, end, one, other, self.homes[robot])
        self.jobs.append((robot,) + made)


def ways_of(floor, entries):
    """The Ways of the plain plan of some entries."""
    ways = Ways(floor)
    for one, other, entry, inside in orders_told(floor, entries):
        ways.lay(entry, inside, (one, other))
    return ways


def plain(floor, entries):
    """The plain plan, laid by the words."""
    ways = ways_of(floor, entries)
    return Plan(tuple(map(tuple, ways.tracks)), tuple(ways.jobs))


def is_well_formed(floor):
    return all(
        fewest_steps(floor, open_cells(floor, robot), home, station) is not None
        for robot, home in enumerate(cells_with(floor, "H"))
        for station in cells_with(floor, "S")
    )


def random_floor(chance, most_rows, most_columns):
    """Any right floor."""
    while True:
        many, length = chance.randint(1, most_rows), chance.randint(1, most_columns)
        rows = tuple("".join(chance.choice("....##HHS") for _ in range(length)) for _ in range(many))
        if 1 <= "".join(rows).count("H") <= 6:
            return Floor(rows)


def good_floor(chance, most_rows, most_columns):
    """A well formed floor with a station or more."""
    while True:
        floor = random_floor(chance, most_rows, most_columns)
        if "S" in "".join(floor.rows) and is_well_formed(floor):
            return floor


def random_entries(chance, floor, many):
    """Right entries, so many, of a well formed floor with a station."""
    robots, stations = len(cells_with(floor, "H")), len(cells_with(floor, "S"))
    inside = set(range(robots))
    entries = []
    while len(entries) < many:
        if chance.random() < 0.3:
            robot = chance.randrange(robots)
            entries.append(("out" if robot in inside else "in", robot))
            inside ^= {robot}
        elif inside:
            orders = chance.randint(1, 3)
            entries.append(("orders", tuple(
                (chance.randrange(stations), chance.randrange(stations)) for _ in range(orders)
            )))
    return entries


def steps_of(plan, robot):
    """The steps of a robot, by a look at each tick."""
    found = []
    track = plan.tracks[robot]
    for tick in range(1, greatest_tick(plan.tracks) + 1):
        ahead, cell = cell_at(track, tick - 1), cell_at(track, tick)
        if ahead != cell:
            found.append(("go", tick, ahead, cell))
        for order, (who, take, put, _) in enumerate(plan.jobs):
            if who == robot and take + 1 == tick:
                found.append(("take", tick, order))
            if who == robot and put + 1 == tick:
                found.append(("put", tick, order))
    return tuple(found)


def hangings(plan):
    """The dict from all steps to the tuples of those that they hang on, each looked for among all."""
    rows = [steps_of(plan, robot) for robot in range(len(plan.tracks))]
    found = {}
    for robot, row in enumerate(rows):
        for number, step in enumerate(row):
            names = [(robot, number - 1)] if number else []
            if step[0] == "go":
                outs = [
                    (other[1], its_robot, its_number)
                    for its_robot, its_row in enumerate(rows)
                    for its_number, other in enumerate(its_row)
                    if its_robot != robot and other[0] == "go" and other[2] == step[3] and other[1] < step[1]
                ]
                names.extend((its_robot, its_number) for _, its_robot, its_number in sorted(outs)[-1:])
            found[(robot, number)] = tuple(sorted(names))
    return found


def is_closed(hung, done):
    return all(
        other < done[its_robot]
        for robot, many in enumerate(done)
        for number in range(many)
        for its_robot, other in hung[(robot, number)]
    )


def walk(chance, plan, hung):
    """Tuples of what is done, one behind the other, by robots that may, taken at random, from nothing to all."""
    counts = [len(steps_of(plan, robot)) for robot in range(len(plan.tracks))]
    done = [0] * len(counts)
    while True:
        yield tuple(done)
        ready = [
            robot for robot, many in enumerate(done)
            if many < counts[robot] and is_closed(hung, done[:robot] + [many + 1] + done[robot + 1:])
        ]
        if not ready:
            return
        done[chance.choice(ready)] += 1


def ends_of(hung, times):
    """When steps end: each at once when all that it hangs on has ended; times by names."""
    found = {}
    while len(found) < len(hung):
        for name, names in hung.items():
            if name not in found and all(other in found for other in names):
                found[name] = max([found[other] for other in names], default=0) + times[name]
    return found
