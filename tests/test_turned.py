import unittest

from stalklines.bundle import answers
from tests import reference
from tests.asking import asked
from tests.reference import CORES, FAMILY, GREATEST, TURNED


def lines(hexagram):
    return [hexagram // 2 ** place % 2 for place in range(6)]


class Turned(unittest.TestCase):
    def test_one_worked_out_by_hand(self):
        # From the lowest up 1 1 0 1 0 0: upside down 0 0 1 0 1 1, exchanged 1 0 0 1 1 0, its core 1 0 1 0 1 0.
        self.assertEqual(answers([TURNED, 11]), [4, 52, 52, 25, 21])
        # From the lowest up 1 0 0 0 0 0.
        self.assertEqual(answers([TURNED, 1]), [4, 32, 62, 8, 0])

    def test_every_hexagram_line_by_line(self):
        for h, answer in enumerate(asked(49, [(TURNED, h) for h in range(64)])):
            self.assertEqual(len(answer), 4)
            of_h = lines(h)
            turned, opposite, exchanged, core = (lines(number) for number in answer)
            for place in range(6):
                self.assertEqual(turned[place], of_h[5 - place], h)
                self.assertEqual(opposite[place], 1 - of_h[place], h)
                self.assertEqual(exchanged[place], of_h[(place + 3) % 6], h)
                self.assertEqual(core[place], of_h[(1, 2, 3, 2, 3, 4)[place]], h)

    def test_every_hexagram_against_the_reference(self):
        turns = (reference.upside_down, reference.opposite, reference.exchanged, reference.core)
        for h in range(64):
            self.assertEqual(answers([TURNED, h]), [4] + [turn(h) for turn in turns])

    def test_no_hexagram(self):
        for wrong in (64, 65, 127, 128, GREATEST):
            self.assertEqual(answers([TURNED, wrong]), [1, -1], wrong)


class Family(unittest.TestCase):
    def test_some_worked_out_by_hand(self):
        self.assertEqual(answers([FAMILY, 0]), [3, 2, 0, 63])
        self.assertEqual(answers([FAMILY, 63]), [3, 2, 0, 63])
        self.assertEqual(answers([FAMILY, 21]), [3, 2, 21, 42])
        # Lowest whole alone; exchanged the fourth; upside down the highest and the third; and their opposites.
        self.assertEqual(answers([FAMILY, 1]), [9, 8, 1, 4, 8, 31, 32, 55, 59, 62])

    def test_every_hexagram(self):
        for h, answer in enumerate(asked(49, [(FAMILY, h) for h in range(64)])):
            self.assertEqual(answer, reference.family(h), h)
            members = answer[1:]
            self.assertEqual(answer[0], len(members))
            self.assertEqual(members, sorted(set(members)))
            self.assertIn(h, members)
            for member in members:
                self.assertIn(reference.upside_down(member), members)
                self.assertIn(reference.opposite(member), members)
                self.assertIn(reference.exchanged(member), members)

    def test_members_have_the_same_family_and_others_another(self):
        families = [answer[1:] for answer in asked(49, [(FAMILY, h) for h in range(64)])]
        for h in range(64):
            for other in range(64):
                self.assertEqual(families[h] == families[other], other in families[h])

    def test_no_hexagram(self):
        for wrong in (64, 65, 127, 128, GREATEST):
            self.assertEqual(answers([FAMILY, wrong]), [1, -1], wrong)


class Cores(unittest.TestCase):
    def test_the_one_that_comes_again_is_the_first(self):
        self.assertEqual(answers([CORES, 0]), [3, 1, 0, 0])
        self.assertEqual(answers([CORES, 63]), [3, 1, 63, 0])
        self.assertEqual(answers([CORES, 21]), [4, 2, 21, 42, 0])
        self.assertEqual(answers([CORES, 42]), [4, 2, 42, 21, 0])

    def test_the_one_that_comes_again_is_a_later_one(self):
        self.assertEqual(answers([CORES, 1]), [4, 2, 1, 0, 1])
        # 1 0 1 0 0 0 from the lowest up, then 0 1 0 1 0 0, then 1 0 1 0 1 0 and its opposite by turns.
        self.assertEqual(answers([CORES, 5]), [6, 4, 5, 10, 21, 42, 2])

    def test_every_hexagram(self):
        places = set()
        for h, answer in enumerate(asked(49, [(CORES, h) for h in range(64)])):
            self.assertEqual(answer, reference.cores(h), h)
            met, again = answer[1:-1], answer[-1]
            self.assertEqual(answer[0], len(met))
            self.assertEqual(met[0], h)
            self.assertEqual(len(set(met)), len(met))
            self.assertEqual([reference.core(one) for one in met], met[1:] + [met[again]])
            places.add(again)
        self.assertEqual(places, {0, 1, 2})

    def test_no_hexagram(self):
        for wrong in (64, 65, 127, 128, GREATEST):
            self.assertEqual(answers([CORES, wrong]), [1, -1], wrong)


if __name__ == "__main__":
    unittest.main()
