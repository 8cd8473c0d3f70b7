"""Floors, entries and odd things for the tests."""

from allbrought.floors import Floor
from allbrought.tracks import Plan
from tests import slow_rows

TWO_ROWS = Floor(("H.S", "H.S"))
ONE = [("orders", ((0, 1),))]
TWO = ONE + [("orders", ((1, 1),))]


def nested(kind, deep):
    thing = kind()
    for _ in range(deep):
        thing = kind([thing])
    return thing


def odd_things():
    """Things of every kind that no call of the package takes for a number, a tuple of numbers and the like."""
    return [
        None, True, False, -1, -(10 ** 19), 10 ** 20 - 1, "", "a", "0", "homes", "H.S", "a\nb", b"", b"H.S",
        [], [0], [(0, 0)], {}, {0: 1}, {"a": [1]}, (None,), (True,), (False, False), (-1,), ("",), ((),), ([],),
        ((0, 0), [0, 0]), (0, True), (True, 0), (0, None), (None, 0), (0, -1), (-1, 0), (0, "0"), (0, 10 ** 20 - 1),
        (10 ** 20 - 1, 0), ((0,), 0), (0, (0,)), (0, 0, 0, 0, 0, 0, 0, 0, 0, 0, 0, 0, 0, 0), range(2), range(0),
        bytearray(b"H"), memoryview(b"H"), slice(1), Ellipsis, NotImplemented, object(), int, len, iter([0]),
        Floor(("HS",)), Plan((((0, 0),),), ()), Plan(None, 0), (Floor(("HS",)),), [Plan(0, 0)], ValueError("a"),
        nested(tuple, 40), nested(list, 40), ("orders",), ("orders", ()), ("out", True), ("in", None),
        tuple([0] * 20000), [0] * 20000,
    ]


# what is well formed, from the least floor on to wide ones, with narrow ones between
GOOD_FLOORS = [
    Floor(("HS",)),
    Floor(("HSH",)),
    Floor(("H.S", "H.S")),
    Floor(("H.SSH",)),
    Floor(("H#S", "...", "S#H")),
    Floor(("H.H.H", ".....", "#.S.#", ".S#S.")),
    Floor(("HHHHHH", "......", "##.###", "##S###", "##S###")),
    Floor(("#H#H#H#", "S.....S", "#H#H#H#")),
    Floor(("H..........S",)),
    Floor(tuple(["H" + "." * 10 + "H"] + ["." * 12] * 4 + ["H....SS....H"] + ["." * 12] * 5 + ["H" + "." * 10 + "H"])),
]

# what is not well formed, with the least pair of a robot and a station that are parted
BAD_FLOORS = [
    (Floor(("HHS",)), (0, 0)),
    (Floor(("H#S",)), (0, 0)),
    (Floor(("SHHS",)), (0, 1)),
    (Floor(("HS#", "###", "H.S")), (0, 1)),
    (Floor(("H.S", "###", "H.S")), (0, 1)),
    (Floor(("S.H", "#H#", "H#.")), (2, 0)),
]


def sample_plans():
    """Pairs of a floor and right entries on it: none, few and many, of one robot and of several."""
    corner = GOOD_FLOORS[5]
    return [
        (Floor(("H.",)), []),
        (TWO_ROWS, []),
        (TWO_ROWS, ONE),
        (TWO_ROWS, TWO),
        (TWO_ROWS, [("orders", ((0, 1), (1, 1), (1, 0), (0, 0)))] + TWO),
        (Floor(("HS",)), [("orders", ((0, 0), (0, 0)))]),
        (Floor(("HSSSH",)), [("orders", ((0, 2), (2, 0)))]),
        (Floor(("HSSSH",)), [("out", 0), ("orders", ((0, 2),)), ("in", 0), ("orders", ((2, 0), (1, 1)))]),
        (corner, [("orders", ((0, 1), (1, 2), (2, 0)))]),
        (corner, [("out", 1), ("orders", ((0, 1), (1, 2))), ("orders", ((2, 2),)), ("in", 1), ("orders", ((1, 0),) * 4)]),
        (GOOD_FLOORS[6], [("orders", ((0, 1), (1, 0), (0, 0))), ("orders", ((1, 1), (0, 1), (1, 0)))]),
        (GOOD_FLOORS[7], [("orders", ((0, 1), (1, 0), (0, 0), (1, 1), (0, 1), (1, 0)))] * 2),
    ]


def no_rows():
    """Things of every kind that are no rows, each as near to one as can be."""
    return [thing for thing in odd_things() if not slow_rows.is_row(thing)] + [
        [], [1], [0, 255], b"", b"\x01", "", "\x01", 0, 1, (256,), (-1,), (0, 256), (True,), (0, False), (1, None),
        (1, "1"), (1, (1,)), ((),), (0, 1, 2, 2 ** 61), {}, {0: 1}, range(3), (0,) * 300001, (0,) * 299999 + (256,),
        (b"\x01",),
    ]
