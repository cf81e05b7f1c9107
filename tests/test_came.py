import unittest

from stalklines import casting
from stalklines.bundle import answers
from tests import reference
from tests.asking import asked
from tests.reference import BEGINS, CAME, GREATEST, STALK_NUMBERS, split, told


def made_up(*aboves):
    """Odds of 6, 7, 8, 9, each told in hundredths: once for the program, once for the reference."""
    for_program = {line: casting.Fraction(above, 100) for line, above in zip((6, 7, 8, 9), aboves)}
    for_reference = {line: reference.Fraction(above, 100) for line, above in zip((6, 7, 8, 9), aboves)}
    return for_program, for_reference


class Came(unittest.TestCase):
    def test_every_hexagram_against_a_search(self):
        for stalks in (21, 25, 49, 73, 97):
            line_odds = reference.odds(stalks)
            given = asked(stalks, [(CAME, h) for h in range(64)], at_once=8)
            awaited = [reference.came(line_odds, h) for h in range(64)]
            self.assertEqual(given, awaited, stalks)

    def test_some_hexagrams_of_every_bundle(self):
        hexagrams = (0, 1, 21, 44, 62, 63)
        for stalks in STALK_NUMBERS:
            line_odds = reference.odds(stalks)
            given = asked(stalks, [(CAME, h) for h in hexagrams], at_once=8)
            self.assertEqual(given, [reference.came(line_odds, h) for h in hexagrams], stalks)

    def test_49_stalks_without_a_begins(self):
        line_odds = reference.odds(49)
        self.assertEqual(answers([CAME, 5]), [3, 5] + told(line_odds[7] ** 2 * line_odds[8] ** 4))

    def test_a_bundle_of_which_a_six_never_comes(self):
        self.assertEqual(split(answers([BEGINS, 21, CAME, 63]))[1], [63, 386 ** 6, 1925 ** 6])

    def test_of_several_as_likely_the_least_number(self):
        # No bundle has such odds, so they are made up here.
        for aboves in ((25, 25, 25, 25), (20, 20, 40, 20), (10, 30, 30, 30), (0, 50, 25, 25)):
            for_program, for_reference = made_up(*aboves)
            for h in range(64):
                origin = casting.likeliest_origin(for_program, h)
                self.assertEqual(origin, reference.came(for_reference, h)[0], (aboves, h))
        self.assertEqual(casting.likeliest_origin(made_up(25, 25, 25, 25)[0], 63), 0)

    def test_lines_that_more_likely_moved(self):
        for aboves in ((40, 10, 20, 30), (30, 20, 40, 10), (10, 30, 20, 40), (0, 50, 0, 50), (50, 0, 50, 0)):
            for_program, for_reference = made_up(*aboves)
            for h in range(64):
                origin = casting.likeliest_origin(for_program, h)
                self.assertEqual(origin, reference.came(for_reference, h)[0], (aboves, h))

    def test_no_hexagram(self):
        for wrong in (64, 65, 127, 128, GREATEST):
            self.assertEqual(answers([CAME, wrong]), [1, -1], wrong)


if __name__ == "__main__":
    unittest.main()
