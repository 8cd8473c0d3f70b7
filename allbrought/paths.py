"""The best path of a robot for an order, layer by layer over the ticks.

A set of cells is one integer, a MASK, with a bit for each: so a whole layer of places takes a few shifts.
The places of a robot at a tick are a LAYER of three masks: where it can be when it has not taken yet, when it
has taken, and when it has put. A SPAN is a pair (tick, mask): which cells are free from this tick on, up to the
next span's.
"""

from allbrought.floors import cells, homes, is_open, neighbours, stations


class Ground:
    """The bits of the cells of a floor, and what is beside them."""

    def __init__(self, floor):
        self.homes = homes(floor)
        self.stations = stations(floor)
        # one column more than the floor has: a shift by one then never leads into another row
        self.stride = len(floor.rows[0]) + 1
        self.bits = tuple([1 << (row * self.stride + column) for row, column in cells(floor)])
        self.around = tuple([
            tuple(sorted((cell,) + neighbours(floor, cell)))
            for cell in range(len(self.bits))
        ])
        self.free = tuple([
            sum([bit for cell, bit in enumerate(self.bits) if is_open(floor, robot, cell)])
            for robot in range(len(self.homes))
        ])


class Errand:
    """What a robot is to do: from its home at a tick to the one station, the other one, and home."""

    def __init__(self, ground, robot, start, order):
        self.ground = ground
        self.start = start
        self.home = ground.homes[robot]
        self.one = ground.stations[order[0]]
        self.other = ground.stations[order[1]]
        self.free = ground.free[robot]


def free_spans(errand, bars):
    """The spans of the cells that are open and not barred: bars are triples (cell, first tick, last tick)."""
    turns = {}
    for cell, first, last in bars:
        turns.setdefault(first, []).append((cell, 1))
        turns.setdefault(last + 1, []).append((cell, -1))
    spans = [(0, errand.free)]
    counts = {}
    free = errand.free
    for tick in sorted(turns):
        for cell, more in turns[tick]:
            counts[cell] = counts.get(cell, 0) + more
            bit = errand.ground.bits[cell] & errand.free
            free = (free & ~bit) if counts[cell] > 0 else (free | bit)
        spans.append((tick, free))
    return spans


def layers_of(errand, spans):
    """The list of the layers from the errand's start to its least home tick, None if it never comes home."""
    bits = errand.ground.bits
    layers = [(bits[errand.home], 0, 0)]
    for number, (_, free) in enumerate(spans):
        end = spans[number + 1][0] if number + 1 < len(spans) else None
        while end is None or errand.start + len(layers) < end:
            layer = _next_layer(errand, layers[-1], free)
            same = layer == layers[-1]
            layers.append(layer)
            if layer[2] & bits[errand.home]:
                return layers
            if same and end is None:
                return None
            if same:
                # nothing changes up to the next span: no need to reckon each tick
                layers.extend([layer] * (end - errand.start - len(layers)))
    return None


def _next_layer(errand, layer, free):
    ahead, loaded, back = layer
    one = errand.ground.bits[errand.one]
    other = errand.ground.bits[errand.other]
    stride = errand.ground.stride
    # who stays in the station takes or puts by it, like it or not
    return (
        (_beside(ahead, stride) | (ahead & ~one)) & free,
        (_beside(loaded, stride) | (loaded & ~other) | (ahead & one)) & free,
        (_beside(back, stride) | back | (loaded & other)) & free,
    )


def _beside(mask, stride):
    return (mask << 1) | (mask >> 1) | (mask << stride) | (mask >> stride)


def best_row(errand, layers):
    """The least row of cells, tick by tick, of those that go through these layers and come home at the last."""
    leading = _leading_home(errand, layers)
    row = [errand.home]
    stage = 0
    for layer in leading[1:]:
        cell, stage = _least_place(errand, layer, row[-1], stage)
        row.append(cell)
    return tuple(row)


def _least_place(errand, layer, cell, stage):
    """The least cell of a layer to which a robot can go from this cell and mask, or stay, and its mask there."""
    stay = stage
    if stage < 2 and cell == (errand.one, errand.other)[stage]:
        stay = stage + 1
    places = [(then, stay if then == cell else stage) for then in errand.ground.around[cell]]
    return [place for place in places if layer[place[1]] & errand.ground.bits[place[0]]][0]


def _leading_home(errand, layers):
    """The layers, but with those places only from which the last one is reached at home."""
    one = errand.ground.bits[errand.one]
    other = errand.ground.bits[errand.other]
    stride = errand.ground.stride
    ahead, loaded, back = 0, 0, errand.ground.bits[errand.home]
    leading = [(ahead, loaded, back)]
    for layer in layers[-2::-1]:
        ahead, loaded, back = (
            layer[0] & (_beside(ahead, stride) | (ahead & ~one) | (loaded & one)),
            layer[1] & (_beside(loaded, stride) | (loaded & ~other) | (back & other)),
            layer[2] & (_beside(back, stride) | back),
        )
        leading.append((ahead, loaded, back))
    return leading[::-1]
