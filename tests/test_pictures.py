"""[10.2]: pictures, changes of them, screens, and THE FACT OF PICTURES."""

import random
import unittest

from allbrought.doing import finish, led
from allbrought.errors import NoChanges, NoHeld, NoLoads, NoPicture, NotClosed, Unlike
from allbrought.floors import Floor, cells
from allbrought.pictures import Screen, changes, drawn, picture_of, redrawn
from allbrought.plans import plan_of
from tests import slow, slow_films
from tests.things import GOOD_FLOORS, TWO, TWO_ROWS, odd_things, sample_plans

NONE = (None, None)
NO_PICTURES = [thing for thing in odd_things() if thing != "a\n"] + [
    "", "\n", "a", "ab", "a\nb", "ab\nc\n", "a\nbc\n", "a\n\n", "\na\n", "\n\n", "a\nb\n ", "ab\ncd", None, 0, ["a\n"], b"a\n",
    ("a\n",), "a\nb\n\n", "ab\n\ncd\n",
]


# among the odd things are a few pairs of a number or None
LOADS_NOT = [
    thing for thing in odd_things()
    if not isinstance(thing, tuple) or len(thing) != 2 or not all(item is None or slow.is_number(item) for item in thing)
]


def expected(floor, held, loads):
    """The picture by a look at each place."""
    text = ""
    for row, signs in enumerate(floor.rows):
        for column, sign in enumerate(signs):
            here = [robot for robot, lot in enumerate(held) if (row, column) in [cells(floor)[cell] for cell in lot]]
            if here and loads[here[0]] is not None:
                sign = "abcdef"[here[0]]
            elif here:
                sign = "012345"[here[0]]
            text += sign
        text += "\n"
    return text


class Drawn(unittest.TestCase):
    def test_by_hand(self):
        for held, loads, picture in [
            (((0, 1), (3,)), NONE, "00S\n1.S\n"), (((0,), (3,)), NONE, "0.S\n1.S\n"), (((), ()), NONE, "H.S\nH.S\n"),
            (((), (0, 1, 2, 3, 4, 5)), (None, 0), "bbb\nbbb\n"), (((1, 2), (2, 5)), (7, None), "Haa\nH.1\n"),
            (((2,), (2,)), (None, 0), "H.0\nH.S\n"), (((2,), (2,)), (0, None), "H.a\nH.S\n"), (((), (4,)), (0, 99), "H.S\nHbS\n"),
            (((5,), ()), (10 ** 19, None), "H.S\nH.a\n"),
        ]:
            self.assertEqual(drawn(TWO_ROWS, held, loads), picture)

    def test_signs_of_six_robots(self):
        floor = GOOD_FLOORS[6]
        held = tuple((home,) for home in slow.cells_with(floor, "H"))
        rest = "\n".join(floor.rows[1:]) + "\n"
        self.assertEqual(drawn(floor, held, (None,) * 6), "012345\n" + rest)
        self.assertEqual(drawn(floor, held, (0, 1, 2, 3, 4, 5)), "abcdef\n" + rest)
        self.assertEqual(drawn(floor, held, (None, 0, None, 0, None, 0)), "0b2d4f\n" + rest)

    def test_any_lots(self):
        for seed, floor in enumerate(GOOD_FLOORS * 3):
            chance = random.Random(940 + seed)
            many = len(cells(floor))
            held = tuple(
                tuple(sorted(chance.sample(range(many), chance.randint(0, min(many, 4))))) for _ in slow.cells_with(floor, "H")
            )
            loads = tuple(chance.choice((None, 0, 50)) for _ in held)
            self.assertEqual(drawn(floor, held, loads), expected(floor, held, loads))

    def test_no_held(self):
        walls = Floor(("H#S", "#.#"))
        for loads in (NONE, None, (None,)):
            for held in odd_things() + [
                (), ((0,),), ((0,), (3,), (4,)), [(0,), (3,)], ([0], (3,)), ((1, 0), (3,)), ((0, 0), (3,)), ((6,), (3,)), ((0,), (-1,)),
                ((0,), (True,)), ((False,), (3,)), ((0,), (None,)), ((0,), ("3",)), ((0,), 3), (0, 3), None, ((0,), ((3,),)), ((0,), [3]),
                ((0,), (3, 6)), ((0,), (10 ** 19,)), "03", ((0,), None),
            ]:
                with self.assertRaises(NoHeld):
                    drawn(TWO_ROWS, held, loads)
        self.assertEqual(drawn(walls, ((2,),), (None,)), "H#S\n#0#\n")
        for held in (((3,),), ((0, 5),)):
            with self.assertRaises(NoHeld):
                drawn(walls, held, (None,))

    def test_no_loads(self):
        for loads in LOADS_NOT + [
            (), (None,), (None, None, None), [None, None], (True, None), (None, False), (-1, None), (None, "0"), (None, (0,)), (0, [0]),
            None, 0, "00", ((None,), None),
        ]:
            with self.assertRaises(NoLoads):
                drawn(TWO_ROWS, ((0,), (3,)), loads)


class PictureOf(unittest.TestCase):
    def test_at_first_between_at_last(self):
        plan = plan_of(TWO_ROWS, TWO)
        for done, picture in [
            ((0, 0), "0.S\n1.S\n"), ((1, 0), "H0S\n1.S\n"), ((2, 0), "H.0\n1.S\n"), ((3, 1), "H.a\nH1S\n"), ((4, 0), "H.S\n1.a\n"),
            ((5, 0), "H.S\n1.0\n"), ((6, 3), "H.0\nH.b\n"), ((8, 6), "0.S\n1.S\n"),
        ]:
            self.assertEqual(picture_of(TWO_ROWS, plan, done), picture)

    def test_all_the_way(self):
        for floor, entries in sample_plans():
            plan = plan_of(floor, entries)
            done = (0,) * len(plan.tracks)
            for robot in finish(plan, done):
                events = tuple(("end", number) for number, many in enumerate(done) for _ in range(many))
                self.assertEqual(
                    picture_of(floor, plan, done), expected(floor, slow_films.held(plan, events), slow_films.loads(plan, events))
                )
                done = led(plan, done, (robot,))
            self.assertEqual(picture_of(floor, plan, done), picture_of(floor, plan, (0,) * len(done)))

    def test_not_closed(self):
        plan = plan_of(TWO_ROWS, TWO)
        for done in odd_things() + [(0, 2), (5, 2), (9, 0), (0,), [0, 0], (True, 0), (0, 0, 0), None, (0, -1)]:
            with self.assertRaises(NotClosed):
                picture_of(TWO_ROWS, plan, done)


class Changes(unittest.TestCase):
    def test_by_hand(self):
        one, other = "H.S\nH.S\n", "00S\n1.~\n"
        self.assertEqual(changes(one, other), ((0, 0, "0"), (0, 1, "0"), (1, 0, "1"), (1, 2, "~")))
        self.assertEqual(changes(other, one), ((0, 0, "H"), (0, 1, "."), (1, 0, "H"), (1, 2, "S")))
        self.assertEqual((changes(one, one), changes(" \n", "~\n"), changes("~\n", " \n")), ((), ((0, 0, "~"),), ((0, 0, " "),)))
        self.assertEqual(redrawn(one, changes(one, other)), other)

    def random_picture(self, chance, rows, columns):
        return "".join("".join(chance.choice(" ~ab0") for _ in range(columns)) + "\n" for _ in range(rows))

    def test_the_fact_of_pictures(self):
        for seed in range(80):
            chance = random.Random(960 + seed)
            rows, columns = chance.randint(1, 5), chance.randint(1, 5)
            one, other = self.random_picture(chance, rows, columns), self.random_picture(chance, rows, columns)
            found = changes(one, other)
            self.assertEqual(redrawn(one, found), other)
            grid, its = one.split("\n"), other.split("\n")
            self.assertEqual(found, tuple(
                (row, place, its[row][place]) for row in range(rows) for place in range(columns)
                if grid[row][place] != its[row][place]
            ))
            self.assertIsInstance(found, tuple)

    def test_no_picture(self):
        for thing in NO_PICTURES:
            for other in ("a\n", "ab\ncd\n"):
                with self.assertRaises(NoPicture):
                    changes(thing, other)
                with self.assertRaises(NoPicture):
                    changes(other, thing)
            for some in ((), None):
                with self.assertRaises(NoPicture):
                    redrawn(thing, some)
            with self.assertRaises(NoPicture):
                changes(thing, thing)

    def test_unlike(self):
        for one, other in [("a\n", "ab\n"), ("a\n", "a\na\n"), ("ab\ncd\n", "abcd\n"), ("ab\n", "a\nb\n"), ("ab\ncd\n", "abc\ndef\n")]:
            for pair in ((one, other), (other, one)):
                with self.assertRaises(Unlike):
                    changes(*pair)

    def test_redrawn_one_behind_another(self):
        picture = "abc\ndef\n"
        for some, made in [
            ((), picture), (((0, 0, "x"),), "xbc\ndef\n"), (((1, 2, " "), (0, 1, "~")), "a~c\nde \n"),
            (((0, 0, "x"), (0, 0, "y")), "ybc\ndef\n"), (((0, 0, "x"), (0, 0, "a")), picture), (((1, 0, "d"),), picture),
        ]:
            self.assertEqual(redrawn(picture, some), made)

    def test_no_changes(self):
        picture = "abc\ndef\n"
        for bad in odd_things() + [
            (), (0, 0), (0, 0, "x", 0), [0, 0, "x"], (2, 0, "x"), (0, 3, "x"), (-1, 0, "x"), (0, -1, "x"), (True, 0, "x"), (0, False, "x"),
            (0, 0, ""), (0, 0, "xy"), (0, 0, "\n"), (0, 0, None), (0, 0, 0), (0, 0, b"x"), (0, 0, ("x",)), (None, 0, "x"), (0, "0", "x"),
            ((0,), 0, "x"), (10 ** 19, 0, "x"), "abc", (0, 0, ["x"]),
        ]:
            for some in ((bad,), ((0, 0, "x"), bad), (bad, (0, 0, "x"))):
                with self.assertRaises(NoChanges):
                    redrawn(picture, some)
        for some in odd_things() + [[], [(0, 0, "x")], None, {}, "", (0, 0, "x"), 0]:
            if some != () or not isinstance(some, tuple):
                with self.assertRaises(NoChanges):
                    redrawn(picture, some)


class Screens(unittest.TestCase):
    def test_new(self):
        for floor in GOOD_FLOORS:
            screen = Screen(floor)
            self.assertEqual((screen.picture(), screen.shown()), ("\n".join(floor.rows) + "\n", 0))

    def test_by_hand(self):
        screen = Screen(TWO_ROWS)
        for many, (held, loads, some) in enumerate([
            (((0,), (3,)), NONE, ((0, 0, "0"), (1, 0, "1"))), (((0, 1), (3,)), NONE, ((0, 1, "0"),)), (((0, 1), (3,)), NONE, ()),
            (((1,), (3,)), (5, None), ((0, 0, "H"), (0, 1, "a"))), (((), ()), NONE, ((0, 1, "."), (1, 0, "H"))),
        ]):
            self.assertEqual(screen.show(held, loads), some)
            self.assertEqual((screen.picture(), screen.shown()), (drawn(TWO_ROWS, held, loads), many + 1))
        self.assertEqual(screen.picture(), "H.S\nH.S\n")

    def test_one_behind_another(self):
        for seed, floor in enumerate(GOOD_FLOORS):
            chance = random.Random(980 + seed)
            screen = Screen(floor)
            picture, many = screen.picture(), len(cells(floor))
            for _ in range(10):
                held = tuple((chance.randrange(many),) for _ in slow.cells_with(floor, "H"))
                loads = tuple(chance.choice((None, 3)) for _ in held)
                picture = redrawn(picture, screen.show(held, loads))
                self.assertEqual((screen.picture(), picture), (drawn(floor, held, loads), drawn(floor, held, loads)))

    def test_no_held_then_no_loads(self):
        screen = Screen(TWO_ROWS)
        screen.show(((1,), (3,)), NONE)
        for held, loads, error in [
            (((6,), (3,)), NONE, NoHeld), (None, None, NoHeld), (((0,),), (None,), NoHeld), (((0,), (3,)), (None,), NoLoads),
            (((0,), (3,)), None, NoLoads), ([(0,), (3,)], [None, None], NoHeld), (((0,), (3,)), (True, None), NoLoads),
        ]:
            with self.assertRaises(error):
                screen.show(held, loads)
        for thing in odd_things():
            with self.assertRaises(NoHeld):
                screen.show(thing, NONE)
        for thing in LOADS_NOT:
            with self.assertRaises(NoLoads):
                screen.show(((0,), (3,)), thing)
        self.assertEqual((screen.picture(), screen.shown()), ("H0S\n1.S\n", 1))

    def test_screens_are_equal_to_nothing_else(self):
        screen = Screen(TWO_ROWS)
        for thing in odd_things() + [Screen(TWO_ROWS), TWO_ROWS, screen.picture()]:
            self.assertIs(screen == thing, False)


if __name__ == "__main__":
    unittest.main()
