import unittest

from stalklines.bundle import answers
from tests import reference
from tests.reference import BEGINS, GREATEST, LINE, STALK_NUMBERS, split


def line(stalks, cuts):
    return split(answers([BEGINS, stalks, LINE] + list(cuts)))[1]


class Line(unittest.TestCase):
    def test_lines_worked_out_by_hand(self):
        # 24 and 25: 1 + 4 + 4 are taken; 22 and 18: 1 + 2 + 1; 20 and 16: 1 + 4 + 3.
        self.assertEqual(answers([LINE, 24, 22, 20]), [4, 7, 9, 4, 8])
        self.assertEqual(answers([LINE, 1, 1, 1]), [4, 9, 5, 4, 4])
        self.assertEqual(answers([LINE, 4, 4, 4]), [4, 6, 9, 8, 8])
        self.assertEqual(answers([LINE, 4, 3, 1]), [4, 7, 9, 8, 4])
        self.assertEqual(answers([LINE, 1, 3, 1]), [4, 8, 5, 8, 4])

    def test_a_right_heap_without_stalks(self):
        # 48 left: four are taken there, the one of the right heap, and none besides.
        self.assertEqual(answers([LINE, 48, 43, 39]), [4, 9, 5, 4, 4])
        self.assertEqual(line(21, [20, 15, 11]), [9, 5, 4, 4])
        self.assertEqual(line(97, [96, 91, 87]), [9, 5, 4, 4])

    def test_every_line_from_few_stalks(self):
        for one in range(0, 23):
            for two in range(0, 18):
                for three in range(0, 14):
                    cuts = [one, two, three]
                    self.assertEqual(line(21, cuts), reference.line(21, cuts), cuts)

    def test_every_first_cut_of_every_bundle(self):
        for stalks in STALK_NUMBERS:
            for cut in range(0, stalks + 2):
                for cuts in ([cut, 1, 1], [1, cut, 1], [1, 1, cut], [4, cut, 3], [4, 4, cut]):
                    self.assertEqual(line(stalks, cuts), reference.line(stalks, cuts), (stalks, cuts))

    def test_four_stalks_in_hand_at_the_third_change(self):
        self.assertEqual(line(21, [4, 4, 3]), [7, 9, 8, 4])
        self.assertEqual(line(21, [4, 4, 4]), [-2, 2])

    def test_a_cut_of_none(self):
        self.assertEqual(answers([LINE, 0, 1, 1]), [2, -2, 0])
        self.assertEqual(answers([LINE, 1, 0, 1]), [2, -2, 1])
        self.assertEqual(answers([LINE, 1, 1, 0]), [2, -2, 2])

    def test_a_cut_of_all_in_hand(self):
        # 49, then 44 (or 40 behind a great change), then 40 (or 32).
        self.assertEqual(answers([LINE, 49, 1, 1]), [2, -2, 0])
        self.assertEqual(answers([LINE, 1, 44, 1]), [2, -2, 1])
        self.assertEqual(answers([LINE, 4, 40, 1]), [2, -2, 1])
        self.assertEqual(answers([LINE, 1, 1, 40]), [2, -2, 2])
        self.assertEqual(answers([LINE, 4, 4, 32]), [2, -2, 2])

    def test_one_stalk_less_can_be(self):
        self.assertEqual(answers([LINE, 48, 1, 1])[0], 4)
        self.assertEqual(answers([LINE, 4, 39, 1])[0], 4)
        self.assertEqual(answers([LINE, 4, 4, 31])[0], 4)

    def test_a_cut_far_above(self):
        self.assertEqual(answers([LINE, GREATEST, 1, 1]), [2, -2, 0])
        self.assertEqual(answers([LINE, 1, GREATEST, 1]), [2, -2, 1])
        self.assertEqual(answers([LINE, 1, 1, GREATEST]), [2, -2, 2])

    def test_of_several_the_first(self):
        self.assertEqual(answers([LINE, 0, 0, 0]), [2, -2, 0])
        self.assertEqual(answers([LINE, 1, GREATEST, 0]), [2, -2, 1])
        self.assertEqual(answers([LINE, 49, 0, 1]), [2, -2, 0])

    def test_each_line_is_cast_from_all_the_stalks(self):
        self.assertEqual(answers([LINE, 4, 4, 4] * 3), [4, 6, 9, 8, 8] * 3)


if __name__ == "__main__":
    unittest.main()
