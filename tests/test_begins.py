import unittest

from stalklines.bundle import answers
from tests.reference import BEGINS, GREATEST, LINE, STALK_NUMBERS, split


def stalks_are(calls, stalks):
    """Whether the bundle has so many stalks behind the calls: the greatest cut can be, one more can't."""
    asked = calls + [LINE, stalks - 1, 1, 1, LINE, stalks, 1, 1]
    below, above = split(answers(asked))[-2:]
    return below[0] > 0 and above == [-2, 0]


class Begins(unittest.TestCase):
    def test_a_bundle_has_49_stalks_at_its_beginning(self):
        self.assertTrue(stalks_are([], 49))

    def test_each_number_told_is_taken(self):
        for stalks in STALK_NUMBERS:
            self.assertEqual(answers([BEGINS, stalks]), [1, 0])
            self.assertTrue(stalks_are([BEGINS, stalks], stalks), stalks)

    def test_every_other_number_is_refused(self):
        others = [n for n in range(0, 130) if n not in STALK_NUMBERS]
        for stalks in others + [GREATEST, GREATEST - 2, 2 ** 31 + 1]:
            self.assertEqual(answers([BEGINS, stalks]), [1, -1], stalks)

    def test_a_refused_one_leaves_the_bundle_as_it_was(self):
        for stalks in (0, 17, 20, 22, 98, 101, GREATEST):
            self.assertTrue(stalks_are([BEGINS, stalks], 49), stalks)
            self.assertTrue(stalks_are([BEGINS, 33, BEGINS, stalks], 33), stalks)

    def test_the_last_one_holds(self):
        self.assertTrue(stalks_are([BEGINS, 21, BEGINS, 97, BEGINS, 53], 53))


if __name__ == "__main__":
    unittest.main()
