import unittest
from fractions import Fraction
from math import gcd

from stalklines.bundle import answers
from tests import reference
from tests.asking import asked
from tests.reference import BECOMES, BEGINS, CHANCE, GREATEST, ODDS, STALK_NUMBERS, split, told


def odds(stalks):
    return split(answers([BEGINS, stalks, ODDS]))[1]


class Odds(unittest.TestCase):
    def test_49_stalks_worked_out_by_hand(self):
        # Great are 11 of 48 cuts; then 20 of 43, or 18 of 39 behind a great one; and so on.
        six = Fraction(11, 48) * Fraction(18, 39) * Fraction(14, 31)
        nine = Fraction(37, 48) * Fraction(23, 43) * Fraction(21, 39)
        answer = answers([ODDS])
        self.assertEqual(answer[:4], [9, 0] + told(six))
        self.assertEqual(answer[8:], told(nine))
        self.assertEqual(answer, [9, 0, 77, 1612, 4051193, 14556360, 424399, 939120, 5957, 26832])

    def test_a_six_never_comes_of_21_stalks(self):
        self.assertEqual(odds(21), [0, 0, 1, 386, 1925, 951, 1925, 84, 275])

    def test_every_bundle_against_the_reference(self):
        for stalks in STALK_NUMBERS:
            chances = reference.odds(stalks)
            awaited = [0]
            for line in (6, 7, 8, 9):
                awaited.extend(told(chances[line]))
            self.assertEqual(odds(stalks), awaited, stalks)

    def test_lowest_terms_that_come_to_1(self):
        for stalks in STALK_NUMBERS:
            answer = odds(stalks)
            self.assertEqual(len(answer), 9)
            pairs = list(zip(answer[1::2], answer[2::2]))
            self.assertTrue(all(gcd(above, below) == 1 for above, below in pairs))
            self.assertEqual(sum(Fraction(above, below) for above, below in pairs), 1)


class Chance(unittest.TestCase):
    def test_every_hexagram_and_set_of_lines(self):
        pairs = [(h, moving) for h in range(64) for moving in range(64)]
        for stalks in (21, 49, 97):
            line_odds = reference.odds(stalks)
            given = asked(stalks, [(CHANCE, h, moving) for h, moving in pairs])
            total = Fraction(0)
            for (h, moving), answer in zip(pairs, given, strict=True):
                awaited = reference.chance(line_odds, h, moving)
                self.assertEqual(answer, [0] + told(awaited), (stalks, h, moving))
                total += Fraction(answer[1], answer[2])
            self.assertEqual(total, 1)

    def test_which_line_is_which(self):
        six, seven, eight, nine = (reference.odds(49)[line] for line in (6, 7, 8, 9))
        self.assertEqual(answers([CHANCE, 1, 2]), [3, 0] + told(seven * six * eight ** 4))
        self.assertEqual(answers([CHANCE, 62, 32]), [3, 0] + told(eight * seven ** 4 * nine))

    def test_what_never_comes_is_0_1(self):
        self.assertEqual(split(answers([BEGINS, 21, CHANCE, 0, 1])), [[0], [0, 0, 1]])

    def test_no_hexagram_and_no_set_of_lines(self):
        for wrong in (64, 65, 127, 128, GREATEST):
            for right in (0, 63):
                self.assertEqual(answers([CHANCE, wrong, right]), [1, -1])
                self.assertEqual(answers([CHANCE, right, wrong]), [1, -1])
            self.assertEqual(answers([CHANCE, wrong, wrong]), [1, -1])

    def test_the_last_ones(self):
        nine = reference.odds(49)[9]
        self.assertEqual(answers([CHANCE, 63, 63]), [3, 0] + told(nine ** 6))


class Becomes(unittest.TestCase):
    def test_every_hexagram_is_what_comes_of_all_that_become_it(self):
        for stalks in (21, 45, 49, 97):
            line_odds = reference.odds(stalks)
            total = Fraction(0)
            for h, answer in enumerate(asked(stalks, [(BECOMES, h) for h in range(64)])):
                awaited = reference.becomes(line_odds, h)
                self.assertEqual(answer, [0] + told(awaited), (stalks, h))
                total += awaited
            self.assertEqual(total, 1)

    def test_which_line_is_which(self):
        six, seven, eight, nine = (reference.odds(49)[line] for line in (6, 7, 8, 9))
        awaited = (seven + six) ** 2 * (eight + nine) ** 4
        self.assertEqual(answers([BECOMES, 3]), [3, 0] + told(awaited))

    def test_no_hexagram(self):
        for wrong in (64, 65, 127, 128, GREATEST):
            self.assertEqual(answers([BECOMES, wrong]), [1, -1])


if __name__ == "__main__":
    unittest.main()
