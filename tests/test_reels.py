"""[9.3]: rows of films, reels, and THE FACTS OF FILM ROWS and OF SEEKING."""

import random
import unittest

from allbrought.errors import BadRow, NoMoment, NoNumber, NoRow
from allbrought.films import Film, done_then, held_then
from allbrought.plans import plan_of
from allbrought.reels import Reel, film_row, read_film
from tests import slow, slow_films, slow_rows
from tests.test_films import PLAN, WORDS, b, back, e, plans
from tests.things import TWO_ROWS, no_rows, odd_things


def random_film(chance, plan, many):
    return Film(plan, tuple((chance.choice(WORDS), chance.randrange(len(plan.tracks))) for _ in range(many)))


class Rows(unittest.TestCase):
    def test_by_hand(self):
        self.assertEqual(film_row(Film(PLAN, ())), (0,))
        self.assertEqual(film_row(Film(PLAN, (b(0), b(1), e(0), back(1)))), (4, 0, 0, 0, 1, 1, 0, 2, 1))
        self.assertEqual(read_film(PLAN, (4, 0, 0, 0, 1, 1, 0, 2, 1)), Film(PLAN, (b(0), b(1), e(0), back(1))))

    def test_read_back(self):
        for seed, plan in enumerate(plans()):
            for many in (0, 1, 2, 40, 127, 128, 300):
                film = random_film(random.Random(900 + seed), plan, many)
                row = film_row(film)
                self.assertEqual(row, slow_films.row_of(film.events))
                self.assertEqual(read_film(plan, row), film)
                self.assertIs(read_film(plan, row).laid, plan)
        most = Film(PLAN, (b(0), e(1)) * 50000)
        self.assertEqual(read_film(PLAN, film_row(most)), most)
        self.assertEqual(len(film_row(most)), 200003)

    def test_no_row(self):
        for thing in no_rows():
            with self.assertRaises(NoRow):
                read_film(PLAN, thing)

    def bad_row(self, row, plan=PLAN):
        with self.assertRaises(BadRow) as held:
            read_film(plan, row)
        return held.exception.place

    def test_bad_row(self):
        for row, place in [
            ((), 0), ((128,), 0), ((128, 0), 0), ((255,) * 9 + (2,), 0), ((1,), 1), ((1, 0), 2), ((1, 3, 0), 1), ((1, 255, 0), 1),
            ((1, 0, 2), 2), ((1, 0, 130, 0), 2), ((1, 0, 128), 2), ((1, 0, 128, 0), 2), ((1, 0) + (255,) * 12, 2), ((0, 0), 1),
            ((1, 0, 0, 0), 3), ((1, 0, 0, 255, 255), 3), ((2, 0, 0), 3), ((2, 0, 0, 1), 4), ((2, 0, 0, 1, 2), 4), ((2, 0, 0, 3), 3),
            ((2, 0, 1, 2, 1, 9), 5), ((3, 2, 1, 1, 0, 0, 7), 6), ((129, 1) + (0, 0) * 128, 258), ((129, 1) + (0, 0) * 128 + (1, 1, 2), 260),
        ]:
            self.assertEqual(self.bad_row(row), place, row)

    def test_more_events_than_a_film_has(self):
        for many in (100001, 10 ** 9, 2 ** 64 - 1):
            self.assertEqual(self.bad_row(slow_rows.whole(many)), 0)
        self.assertEqual(self.bad_row(slow_rows.whole(100001) + (0, 0) * 100001), 0)
        self.assertEqual(self.bad_row(slow_rows.whole(100000) + (0, 0) * 99999), 3 + 2 * 99999)

    def test_robots_of_the_plan(self):
        for plan in plans():
            robots = len(plan.tracks)
            self.assertEqual(read_film(plan, (1, 2, robots - 1)).events, (("back", robots - 1),))
            self.assertEqual(self.bad_row((1, 2, robots), plan), 2)

    def test_no_other_row_is_read_as_it(self):
        chance = random.Random(910)
        film = random_film(chance, PLAN, 20)
        right = film_row(film)
        for at in range(len(right)):
            for byte in (0, 1, 2, 3, 127, 128, 255):
                if byte != right[at]:
                    spoilt = right[:at] + (byte,) + right[at + 1:]
                    try:
                        other = read_film(PLAN, spoilt)
                    except BadRow:
                        continue
                    self.assertNotEqual(other, film)
                    self.assertEqual(film_row(other), spoilt)
            self.assertIn(self.bad_row(right[:at]), (at, at - 1, 0))


class SlowReel:
    """A film, where a reel stands, and of what it keeps standings."""

    def __init__(self, film, every):
        self.film, self.every, self.at, self.worked = film, every, 0, 0
        self.kept = {0}

    def seek(self, at):
        starts = [number for number in self.kept | {self.at} if number <= at]
        start = max(starts)
        self.kept |= {number for number in range(start + 1, at + 1) if number % self.every == 0}
        self.at, self.worked = at, at - start


class Reels(unittest.TestCase):
    def check(self, reel, model):
        self.assertEqual((reel.stands(), reel.worked()), (model.at, model.worked))
        self.assertEqual(reel.kept(), tuple(sorted(model.kept)))
        self.assertEqual(reel.cells_now(), held_then(model.film, model.at))
        self.assertEqual(reel.done_now(), done_then(model.film, model.at))

    def test_new(self):
        for film in (Film(PLAN, ()), Film(PLAN, (b(0), e(0)))):
            for every in (1, 2, 500):
                reel = Reel(film, every)
                self.assertEqual((reel.stands(), reel.kept(), reel.worked()), (0, (0,), 0))
                self.assertEqual((reel.cells_now(), reel.done_now()), (((0,), (3,)), (0, 0)))

    def test_no_number(self):
        film = Film(PLAN, (b(0), e(0)))
        for thing in odd_things() + [0, 501, 502, -1, True, False, None, "1", (1,), 10 ** 19]:
            with self.assertRaises(NoNumber):
                Reel(film, thing)

    def test_by_hand(self):
        film = Film(PLAN, (b(0), e(0)) * 8)
        reel = Reel(film, 5)
        for at, worked, kept in [
            (7, 7, (0, 5)), (7, 0, (0, 5)), (6, 1, (0, 5)), (5, 0, (0, 5)), (4, 4, (0, 5)), (16, 11, (0, 5, 10, 15)),
            (14, 4, (0, 5, 10, 15)), (16, 1, (0, 5, 10, 15)), (0, 0, (0, 5, 10, 15)), (12, 2, (0, 5, 10, 15)), (14, 2, (0, 5, 10, 15)),
            (15, 0, (0, 5, 10, 15)),
        ]:
            self.assertIsNone(reel.seek(at))
            self.assertEqual((reel.stands(), reel.worked(), reel.kept()), (at, worked, kept))
            self.assertEqual((reel.cells_now(), reel.done_now()), (held_then(film, at), done_then(film, at)))

    def test_there_and_back(self):
        for seed, plan in enumerate(plans()):
            chance = random.Random(920 + seed)
            for every in (1, 2, 3, 7, 50, 500):
                film = random_film(chance, plan, chance.choice((0, 1, 30, 100)))
                if chance.random() < 0.5:
                    film = Film(plan, slow_films.right_events(chance, plan, 60))
                many = len(film.events)
                reel, model = Reel(film, every), SlowReel(film, every)
                reached = 0
                for _ in range(25):
                    at = chance.choice((0, many, reel.stands(), chance.randint(0, many), chance.randint(0, many)))
                    self.assertIsNone(reel.seek(at))
                    model.seek(at)
                    self.check(reel, model)
                    if at <= reached:
                        self.assertLess(reel.worked(), every)
                    reached = max(reached, at)

    def test_no_moment(self):
        film = Film(PLAN, (b(0), e(0)) * 3)
        reel, model = Reel(film, 2), SlowReel(film, 2)
        for at in (0, 5, 2, 6):
            reel.seek(at)
            model.seek(at)
            for thing in odd_things() + [7, 8, -1, True, False, None, "1", (1,), 10 ** 19]:
                with self.assertRaises(NoMoment):
                    reel.seek(thing)
            self.check(reel, model)

    def test_copy(self):
        film = Film(PLAN, (b(0), e(0)) * 8)
        reel, model = Reel(film, 3), SlowReel(film, 3)
        reel.seek(7)
        model.seek(7)
        other, its = reel.copy(), SlowReel(film, 3)
        its.seek(7)
        self.assertIsInstance(other, Reel)
        self.check(other, its)
        reel.seek(16)
        model.seek(16)
        self.check(reel, model)
        self.check(other, its)
        for at in (2, 11):
            other.seek(at)
            its.seek(at)
        self.check(reel, model)
        self.check(other, its)

    def test_reels_are_equal_to_nothing_else(self):
        film = Film(PLAN, ())
        reel = Reel(film, 3)
        for thing in odd_things() + [film, Reel(film, 3), reel.copy()]:
            self.assertIs(reel == thing, False)

    def test_film_of_a_plan_without_steps(self):
        plan = plan_of(TWO_ROWS, [])
        film = Film(plan, (b(0), e(0), b(1)))
        reel = Reel(film, 1)
        reel.seek(3)
        self.assertEqual((reel.cells_now(), reel.done_now(), reel.kept()), (((0,), (3,)), (0, 0), (0, 1, 2, 3)))
        self.assertEqual(slow.steps_of(plan, 0), ())


if __name__ == "__main__":
    unittest.main()
