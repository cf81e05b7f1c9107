import unittest

from stalklines.bundle import answers
from tests import reference
from tests.reference import BEGINS, CAST, GREATEST, split

# Cuts of 49 stalks for each line.
SIX, SEVEN, EIGHT, NINE = [4, 4, 4], [4, 3, 1], [1, 3, 1], [1, 1, 1]


def cast(stalks, cuts):
    return split(answers([BEGINS, stalks, CAST, 18] + cuts))[1]


class Cast(unittest.TestCase):
    def test_lines_at_rest(self):
        self.assertEqual(answers([CAST, 18] + SEVEN * 6), [3, 63, 0, 63])
        self.assertEqual(answers([CAST, 18] + EIGHT * 6), [3, 0, 0, 0])
        self.assertEqual(answers([CAST, 18] + SEVEN + EIGHT * 4 + SEVEN), [3, 33, 0, 33])

    def test_lines_that_all_move(self):
        self.assertEqual(answers([CAST, 18] + NINE * 6), [3, 63, 63, 0])
        self.assertEqual(answers([CAST, 18] + SIX * 6), [3, 0, 63, 63])

    def test_moving_lines_among_others(self):
        cuts = NINE + SEVEN + EIGHT + SIX + EIGHT + SEVEN
        self.assertEqual(answers([CAST, 18] + cuts), [3, 1 + 2 + 32, 1 + 8, 2 + 8 + 32])

    def test_each_place_by_itself(self):
        for place in range(6):
            bit = 2 ** place
            before, behind = EIGHT * place, EIGHT * (5 - place)
            self.assertEqual(answers([CAST, 18] + before + SEVEN + behind), [3, bit, 0, bit])
            self.assertEqual(answers([CAST, 18] + before + NINE + behind), [3, bit, bit, 0])
            self.assertEqual(answers([CAST, 18] + before + SIX + behind), [3, 0, bit, bit])

    def test_many_cuts_against_the_reference(self):
        for stalks in (21, 25, 49, 73, 97):
            for step in range(1, 60):
                # Cuts up to a little above the twelve stalks that are surely in hand at a third change.
                cuts = [1 + (step * (place + 1) * (place + 5)) % 13 for place in range(18)]
                self.assertEqual(cast(stalks, cuts), reference.cast(stalks, cuts), (stalks, cuts))

    def test_the_first_cut_that_can_not_be_at_each_place(self):
        for place in range(18):
            for wrong in (0, 49, GREATEST):
                cuts = [1] * 18
                cuts[place] = wrong
                self.assertEqual(answers([CAST, 18] + cuts), [2, -2, place])
                cuts[place:] = [wrong] * (18 - place)
                self.assertEqual(answers([CAST, 18] + cuts), [2, -2, place])

    def test_just_as_many_as_in_hand_at_each_place(self):
        for place in range(18):
            cuts = [1] * 18
            in_hand = (49, 44, 40)[place % 3]
            cuts[place] = in_hand
            self.assertEqual(answers([CAST, 18] + cuts), [2, -2, place])
            cuts[place] = in_hand - 1
            self.assertEqual(answers([CAST, 18] + cuts), [3, 63, 63, 0])

    def test_a_bundle_of_other_stalks(self):
        cuts = [1] * 15 + [20, 15, 12]
        self.assertEqual(cast(21, cuts), [-2, 17])
        self.assertEqual(cast(25, cuts), reference.cast(25, cuts))


if __name__ == "__main__":
    unittest.main()
