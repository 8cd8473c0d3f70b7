"""[9.1]: films, where robots stand in them, the first wrong event, and THE FACT OF FILMS."""

import random
import unittest

from allbrought.errors import BadFilm, NoMoment
from allbrought.films import Film, amid_then, done_then, first_wrong, held_then, is_film
from allbrought.plans import plan_of
from allbrought.tracks import Plan
from tests import slow, slow_films
from tests.things import ONE, TWO, TWO_ROWS, odd_things, sample_plans

PLAN = plan_of(TWO_ROWS, TWO)
WORDS = ("begin", "end", "back")


def b(robot):
    return ("begin", robot)


def e(robot):
    return ("end", robot)


def back(robot):
    return ("back", robot)


def plans():
    return [plan_of(floor, entries) for floor, entries in sample_plans()]


class Films(unittest.TestCase):
    def test_attributes(self):
        events = (b(0), e(0), b(1), back(1), e(1), e(1))
        for some in ((), events):
            film = Film(PLAN, some)
            self.assertIs(film.laid, PLAN)
            self.assertEqual(film.events, some)
            self.assertIsInstance(film.events, tuple)

    def test_bad_film(self):
        right = (b(0), e(0), back(1))
        for bad in odd_things() + [
            ("begin", 2), ("begin", 6), ("end", -1), ("back", True), ("begin", False), ["begin", 0], ("begin", [0]), ("begin", "0"),
            ("begin", None), ("begin",), ("begin", 0, 0), ("Begin", 0), ("begins", 0), ("", 0), ("take", 0), (0, "begin"), (b"begin", 0),
            (None, 0), (0, 0), (("begin",), 0), "begin", ("begin", (0,)), {"begin": 0}, ("end", 10 ** 19), ("be", 0), ([], 0), ({}, 0),
        ]:
            for at in range(4):
                with self.assertRaises(BadFilm) as held:
                    Film(PLAN, right[:at] + (bad,) + right[at:] + (bad,))
                self.assertEqual(held.exception.index, at)

    def test_no_tuple_or_too_many(self):
        for thing in odd_things() + [[b(0)], [], {}, "begin", None, 0]:
            if not isinstance(thing, tuple):
                with self.assertRaises(BadFilm) as held:
                    Film(PLAN, thing)
                self.assertEqual(held.exception.index, -1)
        most = (b(0), e(0)) * 50000
        self.assertEqual(len(Film(PLAN, most).events), 100000)
        for some in (most + (b(0),), most + (0,), (0,) + most):
            with self.assertRaises(BadFilm) as held:
                Film(PLAN, some)
            self.assertEqual(held.exception.index, -1)

    def test_robots_of_the_plan(self):
        for plan in plans():
            robots = len(plan.tracks)
            Film(plan, tuple((word, robot) for word in WORDS for robot in range(robots)))
            for word in WORDS:
                with self.assertRaises(BadFilm) as held:
                    Film(plan, ((word, robots - 1), (word, robots)))
                self.assertEqual(held.exception.index, 1)

    def test_equal(self):
        events = (b(0), e(0))
        films = [Film(PLAN, ()), Film(PLAN, events), Film(PLAN, events + (b(0),)), Film(PLAN, (b(1), e(1)))]
        films += [Film(plan_of(TWO_ROWS, ONE), events), Film(plan_of(TWO_ROWS, []), ())]
        for at, film in enumerate(films):
            for other, its in enumerate(films):
                again = Film(Plan(its.laid.tracks, its.laid.jobs), tuple(list(its.events)))
                self.assertIs(film == again, at == other)
                self.assertIs(film != again, at != other)
            for thing in odd_things() + [PLAN, film.events]:
                self.assertIs(film == thing, False)
                self.assertIs(thing == film, False)


class Standing(unittest.TestCase):
    def check(self, film):
        for at in range(len(film.events) + 1):
            ahead = film.events[:at]
            self.assertEqual(done_then(film, at), slow_films.done_ahead(film.laid, ahead))
            self.assertEqual(amid_then(film, at), slow_films.amid(film.laid, ahead))
            self.assertEqual(held_then(film, at), slow_films.held(film.laid, ahead))

    def test_by_hand(self):
        film = Film(PLAN, (b(0), b(1), e(0), b(0), back(0), e(1), e(1), e(0), e(0), b(0)))
        self.assertEqual([done_then(film, at) for at in (0, 2, 3, 6, 7, 8, 10)], [
            (0, 0), (0, 0), (1, 0), (1, 1), (1, 2), (2, 2), (3, 2)
        ])
        self.assertEqual([amid_then(film, at) for at in range(11)], [
            (), (0,), (0, 1), (1,), (0, 1), (1,), (), (), (), (), (0,)
        ])
        self.assertEqual([held_then(film, at) for at in (0, 1, 2, 3, 4, 5, 6, 9, 10)], [
            ((0,), (3,)), ((0, 1), (3,)), ((0, 1), (3, 4)), ((1,), (3, 4)), ((1, 2), (3, 4)), ((1,), (3, 4)), ((1,), (4,)),
            ((2,), (5,)), ((2, 5), (5,)),
        ])

    def test_films_that_are_right(self):
        for seed, plan in enumerate(plans()):
            for many in (5, 40):
                self.check(Film(plan, slow_films.right_events(random.Random(700 + seed), plan, many)))

    def test_films_out_of_order(self):
        for seed, plan in enumerate(plans()):
            chance = random.Random(720 + seed)
            robots = len(plan.tracks)
            events = tuple((chance.choice(WORDS + ("end", "begin")), chance.randrange(robots)) for _ in range(60))
            self.check(Film(plan, events))

    def test_more_ends_than_steps(self):
        film = Film(PLAN, (e(0),) * 12 + (b(0), e(1)))
        self.assertEqual(done_then(film, 12), (8, 0))
        self.assertEqual(done_then(film, 14), (8, 1))
        self.assertEqual((amid_then(film, 13), held_then(film, 13)), ((), ((0,), (3,))))
        self.check(film)
        self.check(Film(plan_of(TWO_ROWS, []), (b(0), e(0), b(0), b(1), back(1))))

    def test_no_moment(self):
        for events in ((), (b(0), e(0), b(0))):
            film = Film(PLAN, events)
            for thing in odd_things() + [-1, len(events) + 1, len(events) + 2, True, False, None, "0", (0,), 10 ** 19]:
                if not slow.is_number(thing) or thing > len(events):
                    for call in (done_then, amid_then, held_then):
                        with self.assertRaises(NoMoment):
                            call(film, thing)


class Wrong(unittest.TestCase):
    def test_by_hand(self):
        ahead = (b(0), e(0)) * 5
        for events, wrong in [
            ((), None), ((b(0),), None), ((b(0), e(0)), None), ((b(0), back(0), b(0)), None), ((e(0),), (0, "order")),
            ((back(1),), (0, "order")), ((b(0), b(0)), (1, "order")), ((b(0), e(0), e(0)), (2, "order")),
            ((b(0), back(0), back(0)), (2, "order")), ((b(0), e(1)), (1, "order")), ((b(0), back(0), e(0)), (2, "order")),
            ((b(0), e(0)) * 8, None), ((b(0), e(0)) * 8 + (b(0),), (16, "order")), ((b(1), b(0), e(1), e(0)), None),
            # robot 1 goes into cell 5 when robot 0 has gone out of it by its step 5
            ((b(1), e(1), b(1)), (2, "early")), (ahead + (b(1), e(1), b(1)), (12, "early")),
            (ahead + (b(0), b(1), e(1), b(1)), (13, "early")), (ahead + (b(0), b(1), e(1), e(0), b(1), e(1)), None),
            ((b(1), e(1), b(1), e(0)), (2, "early")), ((e(0), b(1), e(1), b(1)), (0, "order")),
        ]:
            self.assertEqual(first_wrong(Film(PLAN, events)), wrong)
            self.assertIs(is_film(PLAN, Film(PLAN, events)), wrong is None)

    def test_right_events_and_one_that_is_wrong(self):
        words = set()
        for seed, plan in enumerate(plans() * 3):
            chance = random.Random(740 + seed)
            events = slow_films.right_events(chance, plan, 60)
            self.assertIsNone(first_wrong(Film(plan, events)))
            at = chance.randint(0, len(events))
            bad = (chance.choice(WORDS), chance.randrange(len(plan.tracks)))
            some = events[:at] + (bad,) + events[at:]
            expected = slow_films.first_wrong(plan, some)
            self.assertEqual(first_wrong(Film(plan, some)), expected)
            words.add(expected and expected[1])
        self.assertEqual(words, {"order", "early"})

    def test_any_events(self):
        words = set()
        for seed, plan in enumerate(plans() * 12):
            chance = random.Random(780 + seed)
            robots = len(plan.tracks)
            events = []
            for _ in range(chance.randint(1, 12)):
                robot = chance.randrange(robots)
                events.extend([b(robot), (chance.choice(("end", "end", "end", "back")), robot)])
            expected = slow_films.first_wrong(plan, tuple(events))
            self.assertEqual(first_wrong(Film(plan, tuple(events))), expected)
            words.add(expected and expected[1])
        self.assertEqual(words, {None, "order", "early"})

    def test_who_begins_nothing_early_never_meets(self):
        for seed, plan in enumerate(plans() * 4):
            events = slow_films.right_events(random.Random(820 + seed), plan, 90)
            for at in range(len(events) + 1):
                together = [cell for lot in held_then(Film(plan, events), at) for cell in lot]
                self.assertEqual(len(together), len(set(together)))
            self.assertTrue(is_film(plan, Film(plan, events)))

    def test_a_plan_whose_robots_meet(self):
        # no right plan: here nothing hangs on anything
        plan = Plan((((0, 0), (1, 1)), ((0, 2), (1, 1))), ())
        self.assertEqual(first_wrong(Film(plan, (b(0), b(1)))), (1, "meets"))
        self.assertEqual(first_wrong(Film(plan, (b(0), e(0), b(1)))), (2, "meets"))
        self.assertEqual(first_wrong(Film(plan, (b(0), back(0), b(1), e(1)))), None)
        plan = Plan((((0, 2), (1, 1)), ((0, 0), (1, 1))), ())
        self.assertEqual(first_wrong(Film(plan, (b(0), b(1)))), (1, "meets"))

    def test_is_film(self):
        right = Film(PLAN, (b(0), e(0)))
        self.assertIs(is_film(PLAN, right), True)
        self.assertIs(is_film(plan_of(TWO_ROWS, TWO), right), True)
        self.assertIs(is_film(plan_of(TWO_ROWS, ONE), right), False)
        self.assertIs(is_film(plan_of(TWO_ROWS, []), Film(PLAN, ())), False)
        self.assertIs(is_film(PLAN, Film(PLAN, (e(0),))), False)
        for thing in odd_things() + [PLAN, right.events, (), (right,)]:
            self.assertIs(is_film(PLAN, thing), False)


if __name__ == "__main__":
    unittest.main()
