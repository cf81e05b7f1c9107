import unittest
from fractions import Fraction
from math import gcd

from stalklines.bundle import answers
from tests import reference
from tests.asking import asked
from tests.reference import BEGINS, GREATEST, MOVING, STALK_NUMBERS, split, told


def searched(stalks, count):
    """The chances of all hexagrams with all sets of so many lines, added up."""
    line_odds = reference.odds(stalks)
    sets = [moving for moving in range(64) if bin(moving).count("1") == count]
    return sum(reference.chance(line_odds, h, moving) for h in range(64) for moving in sets)


class Moving(unittest.TestCase):
    def test_each_count_against_all_that_may_be_cast(self):
        for stalks in (21, 45, 49, 97):
            given = asked(stalks, [(MOVING, count) for count in range(7)])
            awaited = [[0] + told(searched(stalks, count)) for count in range(7)]
            self.assertEqual(given, awaited, stalks)

    def test_49_stalks_without_a_begins(self):
        moves = Fraction(77, 1612) + Fraction(5957, 26832)
        self.assertEqual(answers([MOVING, 0]), [3, 0] + told((1 - moves) ** 6))
        self.assertEqual(answers([MOVING, 1]), [3, 0] + told(6 * moves * (1 - moves) ** 5))
        self.assertEqual(answers([MOVING, 2]), [3, 0] + told(15 * moves ** 2 * (1 - moves) ** 4))
        self.assertEqual(answers([MOVING, 3]), [3, 0] + told(20 * moves ** 3 * (1 - moves) ** 3))
        self.assertEqual(answers([MOVING, 6]), [3, 0] + told(moves ** 6))

    def test_a_bundle_in_which_only_a_nine_moves(self):
        self.assertEqual(split(answers([BEGINS, 21, MOVING, 6]))[1], [0, 84 ** 6, 275 ** 6])

    def test_lowest_terms_that_come_to_1(self):
        for stalks in STALK_NUMBERS:
            given = asked(stalks, [(MOVING, count) for count in range(7)])
            for answer in given:
                self.assertEqual(len(answer), 3)
                self.assertEqual(answer[0], 0)
                self.assertEqual(gcd(answer[1], answer[2]), 1)
            self.assertEqual(sum(Fraction(above, below) for zero, above, below in given), 1, stalks)

    def test_more_lines_than_a_hexagram_has(self):
        for wrong in (7, 8, 63, 64, GREATEST):
            self.assertEqual(answers([MOVING, wrong]), [1, -1], wrong)


if __name__ == "__main__":
    unittest.main()
