"""[9.2]: films that are played and merged, gaps, what is brought, and THE FACT OF MERGING."""

import random
import unittest

from allbrought.doing import finish, is_closed, led
from allbrought.errors import NoCounts, NoMoment, TooEarly
from allbrought.films import Film, amid_then, brought, done_then, first_wrong, gap, is_film, loads, merged, played
from allbrought.plans import plan_of
from tests import slow, slow_films
from tests.test_films import PLAN, WORDS, b, back, e, plans
from tests.things import TWO_ROWS, odd_things


def counts_of(plan):
    return tuple(len(slow.steps_of(plan, robot)) for robot in range(len(plan.tracks)))


class Played(unittest.TestCase):
    def test_begins_and_ends(self):
        for kind in (list, tuple):
            self.assertEqual(played(PLAN, kind([0, 1, 0])), Film(PLAN, (b(0), e(0), b(1), e(1), b(0), e(0))))
            self.assertEqual(played(PLAN, kind()), Film(PLAN, ()))
        self.assertIs(played(PLAN, [0]).laid, PLAN)

    def test_to_the_end(self):
        for plan in plans():
            robots = finish(plan, (0,) * len(plan.tracks))
            film = played(plan, robots)
            self.assertTrue(is_film(plan, film))
            self.assertEqual(film.events, tuple((word, robot) for robot in robots for word in ("begin", "end")))
            self.assertEqual(done_then(film, len(film.events)), counts_of(plan))

    def test_too_early(self):
        for robots, index in [
            ([1, 1], 1), ([0, 1, 1, 0], 2), ([0] * 9, 8), ([0] * 6 + [1] * 7, 12), ([2], 0), ([0, -1], 1), ([0, True], 1),
            ([False], 0), ([0, None], 1), (["0"], 0), ([0, (0,)], 1), ((0, [0]), 1), ([10 ** 19], 0), ((0, 0, 9, 1, 1), 2),
        ]:
            with self.assertRaises(TooEarly) as held:
                played(PLAN, robots)
            self.assertEqual(held.exception.index, index)
        for thing in odd_things() + [None, 0, "0", {}, {0: 0}, range(2), ""]:
            if not isinstance(thing, (list, tuple)):
                with self.assertRaises(TooEarly) as held:
                    played(PLAN, thing)
                self.assertEqual(held.exception.index, -1)
        with self.assertRaises(TooEarly) as held:
            played(plan_of(TWO_ROWS, []), (0,))
        self.assertEqual(held.exception.index, 0)

    def test_as_led(self):
        for seed, plan in enumerate(plans() * 5):
            chance = random.Random(840 + seed)
            robots = [chance.randrange(len(plan.tracks)) for _ in range(chance.randint(0, 9))]
            answers = []
            for call in (lambda: led(plan, (0,) * len(plan.tracks), robots), lambda: played(plan, robots)):
                try:
                    answers.append(call())
                except TooEarly as error:
                    answers.append(error.index)
            if not isinstance(answers[0], int):
                film = answers[1]
                answers[1] = done_then(film, len(film.events))
                self.assertEqual((len(film.events), amid_then(film, len(film.events))), (2 * len(robots), ()))
            self.assertEqual(answers[0], answers[1])


class Merging(unittest.TestCase):
    def check(self, plan, done):
        rows, hung = slow_films.known(plan)
        gaps = [
            (robot, number) for robot, number in sorted(hung) if number < done[robot]
            and any(not before < done[other] for other, before in hung[(robot, number)])
        ]
        self.assertEqual(gap(plan, done), gaps[0] if gaps else None)
        film = merged(plan, done)
        self.assertEqual(film is None, gaps != [])
        self.assertEqual(is_closed(plan, done), gaps == [])
        if film is not None:
            self.assertIsInstance(film, Film)
            self.assertEqual(film.laid, plan)
            self.assertIsNone(first_wrong(film))
            self.assertIsNone(slow_films.first_wrong(plan, film.events))
            end = len(film.events)
            self.assertEqual((done_then(film, end), amid_then(film, end)), (done, ()))
        return film is None

    def test_by_hand(self):
        self.assertEqual((gap(PLAN, (0, 0)), merged(PLAN, (0, 0))), (None, Film(PLAN, ())))
        self.assertEqual((gap(PLAN, (5, 2)), merged(PLAN, (5, 2))), ((1, 1), None))
        self.assertEqual(gap(PLAN, (0, 6)), (1, 1))
        self.assertIsNone(gap(PLAN, (6, 6)))
        for done in ((0, 1), (8, 0), (6, 2), (8, 6), (3, 1)):
            self.check(PLAN, done)

    def test_any_counts(self):
        seen = set()
        for seed, plan in enumerate(plans()):
            chance = random.Random(860 + seed)
            most = counts_of(plan)
            self.check(plan, most)
            for _ in range(12):
                seen.add(self.check(plan, tuple(chance.randint(0, many) for many in most)))
            _, hung = slow_films.known(plan)
            for done in list(slow.walk(chance, plan, hung))[::5]:
                self.assertFalse(self.check(plan, done))
        self.assertEqual(seen, {True, False})

    def test_no_counts(self):
        for call in (gap, merged):
            for thing in odd_things() + [
                (), (0,), (0, 0, 0), [0, 0], (9, 0), (0, 7), (-1, 0), (0, -1), (True, 0), (0, False), (0, None), ("0", 0), (0, (0,)),
                (0, 10 ** 19), None, 0, "00", {0: 0, 1: 0},
            ]:
                with self.assertRaises(NoCounts):
                    call(PLAN, thing)
            with self.assertRaises(NoCounts):
                call(plan_of(TWO_ROWS, []), (0, 1))
            self.assertIsInstance(merged(plan_of(TWO_ROWS, []), (0, 0)), Film)


class Brought(unittest.TestCase):
    def check(self, film):
        for at in range(len(film.events) + 1):
            ahead = film.events[:at]
            self.assertEqual(brought(film, at), slow_films.brought(film.laid, ahead))
            self.assertEqual(loads(film, at), slow_films.loads(film.laid, ahead))

    def test_by_hand(self):
        film = played(PLAN, (0,) * 6 + (1,) * 4)
        # robot 0 takes by its step 2 and puts by its step 4, robot 1 by its steps 2 and 3
        self.assertEqual([loads(film, at) for at in (0, 5, 6, 9, 10, 17, 18, 20)], [
            (None, None), (None, None), (0, None), (0, None), (None, None), (None, None), (None, 1), (None, None)
        ])
        self.assertEqual([brought(film, at) for at in (0, 9, 10, 19, 20)], [(), (), (0,), (0,), (0, 1)])

    def test_at_each_place(self):
        for seed, plan in enumerate(plans()):
            chance = random.Random(880 + seed)
            self.check(Film(plan, slow_films.right_events(chance, plan, 80)))
            robots = len(plan.tracks)
            self.check(Film(plan, tuple((chance.choice(WORDS + ("end", "end")), chance.randrange(robots)) for _ in range(50))))
            film = merged(plan, counts_of(plan))
            self.assertEqual(brought(film, len(film.events)), tuple(range(len(plan.jobs))))
            self.assertEqual(loads(film, len(film.events)), (None,) * robots)

    def test_ascending_though_put_in_another_order(self):
        crossed = []
        for plan in plans():
            puts = [put for _, _, put, _ in plan.jobs]
            if puts != sorted(puts):
                crossed.append(plan)
                self.check(merged(plan, counts_of(plan)))
        self.assertNotEqual(crossed, [])

    def test_a_load_that_is_put_where_it_is_taken(self):
        # the film may end amid the step that puts
        film = Film(PLAN, (b(0), e(0)) * 4 + (b(0),))
        self.assertEqual((loads(film, 9), brought(film, 9)), ((0, None), ()))
        film = Film(PLAN, (b(0), e(0)) * 4 + (b(0), back(0)))
        self.assertEqual((loads(film, 10), brought(film, 10)), ((0, None), ()))

    def test_no_moment(self):
        film = played(PLAN, (0, 0))
        for thing in odd_things() + [-1, 5, 6, True, False, None, "0", (0,), 10 ** 19]:
            for call in (brought, loads):
                with self.assertRaises(NoMoment):
                    call(film, thing)


if __name__ == "__main__":
    unittest.main()
