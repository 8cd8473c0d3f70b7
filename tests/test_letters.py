"""[6.1]: seals, sayings and tellings, and THE FACT OF LETTERS."""

import random
import unittest

from allbrought.errors import NoLetter, NoNumber, NoRow
from allbrought.floors import Floor
from allbrought.letters import letter_row, read_letter, sealed, unsealed
from tests import slow_rows
from tests.slow_rows import wholes
from tests.things import TWO_ROWS, no_rows, odd_things

FLOORS = [Floor(("H" * many + "S",)) for many in range(1, 7)]
MATCHES = [0, 1, 127, 128, 77777, 2 ** 32 - 1]
NUMBERS = [0, 0, 1, 5, 127, 128, 300, 16384, 99999]
BEYOND = [100000, 100001, 2 ** 32 - 1, 2 ** 32, 2 ** 60]
TEN = ("orders", ((0, 1), (99999, 0)))


def random_entry(chance):
    word = chance.choice(("orders", "orders", "out", "in"))
    if word == "orders":
        return (word, tuple((chance.choice(NUMBERS), chance.choice(NUMBERS)) for _ in range(chance.randint(1, 6))))
    return (word, chance.choice(NUMBERS))


def random_letter(chance, many):
    """What a letter can say on a floor of so many robots."""
    counts = tuple(chance.choice(NUMBERS) for _ in range(many))
    if chance.random() < 0.5:
        robot = chance.randrange(many)
        return ("say", robot, chance.choice(NUMBERS), counts[robot], counts)
    entries = tuple(random_entry(chance) for _ in range(chance.choice((0, 1, 2, 5, 59, 60))))
    return ("tell", counts, chance.choice(NUMBERS), entries)


def sealed_again(row):
    return row + slow_rows.seal(row)


# what is no tuple of a letter of TWO_ROWS, though a row can be made of it
NO_LETTERS = (
    [("say", 2, 0, 0, (0, 0)), ("say", 6, 0, 0, (0, 0, 0, 0, 0, 0, 0)), ("say", 0, 0, 1, (0, 0)), ("say", 1, 0, 0, (0, 1))]
    + [("say", 0, 0, 0, (0,)), ("say", 0, 0, 0, (0, 0, 0)), ("say", 0, 0, 0, ())]
    + [("say", number, 0, 0, (0, 0)) for number in BEYOND] + [("say", 0, number, 0, (0, 0)) for number in BEYOND]
    + [("say", 0, 0, number, (number, 0)) for number in BEYOND] + [("say", 0, 0, 0, (0, number)) for number in BEYOND]
    + [("tell", (0, number), 0, ()) for number in BEYOND] + [("tell", (number, 0), 0, ()) for number in BEYOND]
    + [("tell", (0, 0), number, ()) for number in BEYOND]
    + [("tell", (0, 0), 0, (("out", number),)) for number in BEYOND]
    + [("tell", (0, 0), 0, (TEN, ("in", 0), ("in", number), TEN)) for number in BEYOND]
    + [("tell", (0, 0), 0, (("orders", ((0, 1), (number, 0))),)) for number in BEYOND]
    + [("tell", (0, 0), 0, (("orders", ((0, number), (0, 0))),)) for number in BEYOND]
    + [("tell", (0, 0), 0, (("out", 0),) * 61), ("tell", (0, 0), 0, (TEN,) * 61), ("tell", (0, 0), 0, (TEN,) * 500)]
    + [("tell", (0,), 0, ()), ("tell", (0, 0, 0), 0, ()), ("tell", (), 0, ())]
)

# what is no tuple of a letter at all
ODD_LETTERS = [
    ["say", 0, 0, 0, (0, 0)], ("say", 0, 0, 0, [0, 0]), ("say", 0, 0, 0), ("say", 0, 0, 0, (0, 0), 0),
    ("say", True, 0, 0, (0, 0)), ("say", 0, False, 0, (0, 0)), ("say", 0, 0, False, (0, 0)), ("say", 0, 0, 0, (False, 0)),
    ("say", 0, 0, 0, (0, True)), ("say", -1, 0, 0, (0, 0)), ("say", 0, -1, 0, (0, 0)), ("say", 0, 0, -1, (-1, 0)),
    ("say", 0, 0, 0, (0, None)), ("say", None, 0, 0, (0, 0)), ("say", 0, "0", 0, (0, 0)), ("say", 0, 0, None, (None, 0)),
    ("Say", 0, 0, 0, (0, 0)), (1, 0, 0, 0, (0, 0)), (b"say", 0, 0, 0, (0, 0)), ("tell", 0, 0, 0, (0, 0)),
    ["tell", (0, 0), 0, ()], ("tell", [0, 0], 0, ()), ("tell", (0, 0), 0, []), ("tell", (0, 0), 0, ([],)),
    ("tell", (0, 0), 0), ("tell", (0, 0), 0, (), 0), ("tell", (0, True), 0, ()), ("tell", (0, 0), False, ()),
    ("tell", (0, 0), None, ()), ("tell", (0, 0), 0, None), ("tell", (0, 0), 0, (None,)), ("tell", (0, 0), 0, (("out", True),)),
    ("tell", (0, 0), 0, (("orders", ()),)), ("tell", (0, 0), 0, (("orders", ((0, 1),) * 7),)), ("tell", None, 0, ()),
    ("tell", (0, 0), 0, (["out", 0],)), ("tell", (0, 0), 0, ("out", 0)), ("say", (0, 0), 0, ()), (2, (0, 0), 0, ()),
    ("tell", (0, 0), -1, ()), ("say",), ("tell",), "say", "tell", (TWO_ROWS, 0, 0, 0, (0, 0)), (TWO_ROWS,) * 4,
]


class Seals(unittest.TestCase):
    def rows(self):
        chance = random.Random(151)
        return [(), (0,), (255,), (1, 1, 0, 0, 0)] + [
            tuple(chance.randrange(256) for _ in range(many)) for many in (1, 2, 3, 4, 5, 8, 50, 3000) for _ in range(3)
        ]

    def test_by_hand(self):
        # the mark of () is 1, that of (7,) is 1000011
        self.assertEqual(sealed(()), (1, 0, 0, 0))
        self.assertEqual(sealed((7,)), (7, 1000011 % 256, 1000011 // 256 % 256, 1000011 // 65536, 0))
        self.assertEqual(unsealed((1, 0, 0, 0)), ())

    def test_sealed_and_unsealed(self):
        for row in self.rows():
            self.assertEqual(sealed(row), row + slow_rows.seal(row))
            self.assertEqual(unsealed(sealed(row)), row)
        longest = (5, 6, 7) * 100000
        self.assertEqual(unsealed(sealed(longest[:-4])), longest[:-4])
        self.assertEqual(len(sealed(longest)), 300004)

    def test_no_seal(self):
        for row in [(), (1,), (1, 0), (1, 0, 0), (0, 0, 0, 1), (0, 0, 0, 0), (2, 0, 0, 0), (1, 0, 0, 0, 0)]:
            self.assertIsNone(unsealed(row))
        for row in self.rows():
            right = sealed(row)
            for at in range(0, len(right), 1 + len(right) // 40):
                spoilt = right[:at] + ((right[at] + 1) % 256,) + right[at + 1:]
                self.assertIsNone(unsealed(spoilt))
                self.assertIsNone(unsealed(right[:at] + right[at + 1:]))
            self.assertIsNone(unsealed(right + (0,)))
            self.assertIsNone(unsealed((0,) + right))
            self.assertIsNone(unsealed(row + slow_rows.seal(row)[::-1]))

    def test_no_row(self):
        for thing in no_rows():
            with self.assertRaises(NoRow):
                sealed(thing)
            with self.assertRaises(NoRow):
                unsealed(thing)


class Letters(unittest.TestCase):
    def test_by_hand(self):
        say = letter_row(TWO_ROWS, 300, ("say", 1, 2, 130, (4, 130)))
        self.assertEqual(say, sealed((1, 172, 2, 1, 2, 130, 1, 4, 130, 1)))
        tell = letter_row(TWO_ROWS, 0, ("tell", (3, 0), 7, (("out", 1), ("orders", ((0, 1),)))))
        self.assertEqual(tell, sealed((2, 0, 3, 0, 7, 2, 2, 1, 1, 1, 0, 1)))
        self.assertEqual(read_letter(TWO_ROWS, 300, say), ("say", 1, 2, 130, (4, 130)))
        self.assertEqual(read_letter(TWO_ROWS, 0, tell), ("tell", (3, 0), 7, (("out", 1), ("orders", ((0, 1),)))))

    def test_each_letter_is_read_back(self):
        chance = random.Random(152)
        for many, floor in enumerate(FLOORS, 1):
            for match in MATCHES:
                for _ in range(8):
                    letter = random_letter(chance, many)
                    row = letter_row(floor, match, letter)
                    self.assertEqual(row, slow_rows.letter(match, letter))
                    self.assertEqual(read_letter(floor, match, row), letter)
                    for other in MATCHES + [match + 1, match - 1, match + 128]:
                        if other != match and 0 <= other < 2 ** 32:
                            self.assertIsNone(read_letter(floor, other, row))

    def test_the_longest_telling(self):
        entries = (("orders", ((99999, 99999),) * 6),) * 60
        letter = ("tell", (99999,) * 6, 99999, entries)
        self.assertEqual(read_letter(FLOORS[5], 2 ** 32 - 1, letter_row(FLOORS[5], 2 ** 32 - 1, letter)), letter)

    def test_another_floor_of_as_many_robots(self):
        row = letter_row(TWO_ROWS, 5, ("say", 1, 0, 0, (9, 0)))
        self.assertEqual(read_letter(FLOORS[1], 5, row), ("say", 1, 0, 0, (9, 0)))
        self.assertIsNone(read_letter(FLOORS[0], 5, row))
        self.assertIsNone(read_letter(FLOORS[2], 5, row))

    def test_what_no_floor_has_may_stand_in_entries(self):
        letter = ("tell", (0, 0), 0, (("out", 99999), ("orders", ((99999, 0),))))
        self.assertEqual(read_letter(TWO_ROWS, 0, letter_row(TWO_ROWS, 0, letter)), letter)

    def test_no_letter_in_a_right_row(self):
        for match in (0, 2 ** 32 - 1):
            for letter in NO_LETTERS:
                row = slow_rows.letter(match, letter)
                self.assertIsNone(read_letter(TWO_ROWS, match, row))
                with self.assertRaises(NoLetter):
                    letter_row(TWO_ROWS, match, letter)

    def test_other_rows(self):
        say, tell = (1, 0, 0, 0, 0, 0, 0), (2, 0, 0, 0, 0, 0)
        self.assertEqual(read_letter(TWO_ROWS, 0, sealed_again(say)), ("say", 0, 0, 0, (0, 0)))
        self.assertEqual(read_letter(TWO_ROWS, 0, sealed_again(tell)), ("tell", (0, 0), 0, ()))
        others = [(kind,) + row[1:] for row in (say, tell) for kind in (0, 3, 4, 127, 128, 129, 130, 255)]
        for row in (say, tell):
            others += [row + (more,) for more in (0, 1, 255)] + [row[:many] for many in range(len(row))]
            # needless zeros
            others += [row[:at] + (128, 0) + row[at + 1:] for at in range(1, len(row))]
            others += [row[:at] + (128,) * 10 + (1,) + row[at + 1:] for at in range(1, len(row))]
        # entries that are none, or too few, or too many
        for rest in [(1,), (1, 0), (1, 4, 0), (1, 1), (1, 1, 0), (1, 1, 7) + (0,) * 14, (2, 2, 0), (1, 2, 0, 0), (0, 2, 0)]:
            others.append(tell[:5] + rest)
        others += [
            (1,) + wholes(2 ** 32, 0, 0, 0, 0, 0), (2,) + wholes(2 ** 32, 0, 0, 0, 0), (1,) + wholes(2 ** 64, 0, 0, 0, 0, 0),
            tell[:5] + slow_rows.whole(2 ** 63) + (2, 0) * 60,
        ]
        for row in others:
            self.assertIsNone(read_letter(TWO_ROWS, 0, sealed_again(row)), row)
        self.assertEqual(read_letter(TWO_ROWS, 0, sealed_again(tell[:5] + (1, 2, 0))), ("tell", (0, 0), 0, (("out", 0),)))

    def test_spoilt_bytes(self):
        chance = random.Random(153)
        for many, floor in enumerate(FLOORS, 1):
            row = letter_row(floor, 77, random_letter(chance, many))
            for at in range(0, len(row), 1 + len(row) // 200):
                byte = chance.choice([other for other in range(256) if other != row[at]])
                self.assertIsNone(read_letter(floor, 77, row[:at] + (byte,) + row[at + 1:]))
                self.assertIsNone(read_letter(floor, 77, row[:at]))

    def test_only_its_own_row_is_read_as_it(self):
        chance = random.Random(154)
        found = 0
        for _ in range(3000):
            row = slow_rows.letter(5, random_letter(chance, 2))[:-4][:60]
            for _ in range(chance.randint(0, 2)):
                at = chance.randrange(len(row))
                row = row[:at] + (chance.choice((0, 1, 2, 60, 128)),) * chance.randint(0, 2) + row[at + 1:]
            told = read_letter(TWO_ROWS, 5, sealed_again(row))
            if told is not None:
                found += 1
                self.assertEqual(letter_row(TWO_ROWS, 5, told), sealed_again(row))
                self.assertEqual(slow_rows.letter(5, told), sealed_again(row))
        self.assertGreater(found, 300)

    def test_odd_things(self):
        for thing in no_rows() + odd_things() + [(), (0,), (0,) * 300001]:
            self.assertIsNone(read_letter(TWO_ROWS, 0, thing))
        row = slow_rows.letter(0, ("say", 0, 0, 0, (0, 0)))
        for thing in (list(row), bytes(row), str(row), row + (True,), (True,) + row[1:], (row,), row[:2] + (False,) + row[3:]):
            self.assertIsNone(read_letter(TWO_ROWS, 0, thing))

    def test_no_number_ahead_of_all_else(self):
        right = ("say", 0, 0, 0, (0, 0))
        for match in odd_things() + [2 ** 32, 2 ** 32 + 1, 2 ** 64, -1, True, False, None, "0", (0,)]:
            for thing in (right, None, (), ("say",), slow_rows.letter(0, right)):
                with self.assertRaises(NoNumber):
                    letter_row(TWO_ROWS, match, thing)
                with self.assertRaises(NoNumber):
                    read_letter(TWO_ROWS, match, thing)

    def test_no_letter(self):
        for thing in odd_things() + ODD_LETTERS + [slow_rows.letter(0, ("say", 0, 0, 0, (0, 0))), ()]:
            with self.assertRaises(NoLetter):
                letter_row(TWO_ROWS, 0, thing)


if __name__ == "__main__":
    unittest.main()
