import unittest

from stalklines.bundle import answers
from tests import reference
from tests.reference import GREATEST, PAIRS, partner, split

SAME_UPSIDE_DOWN = [h for h in range(64) if reference.upside_down(h) == h]


def by_pairs(hexagrams):
    """An order by pairs, in which the first one of each pair comes as told."""
    order = []
    for h in hexagrams:
        if h not in order:
            order.extend([h, partner(h)])
    return order


RISING = by_pairs(range(64))
FALLING = by_pairs(range(63, -1, -1))
STEPPING = by_pairs([(h * 27 + 5) % 64 for h in range(64)])
ORDERS = (RISING, FALLING, STEPPING)


def asked(order):
    return split(answers([PAIRS, 64] + order))[0]


def with_number(order, place, number):
    return order[:place] + [number] + order[place + 1:]


class Pairs(unittest.TestCase):
    def test_orders_by_pairs(self):
        for order in ORDERS:
            self.assertEqual(sorted(order), list(range(64)))
            self.assertEqual(answers([PAIRS, 64] + order), [1, 1])

    def test_either_one_of_a_pair_may_be_ahead(self):
        for place in range(0, 64, 2):
            order = list(RISING)
            order[place:place + 2] = order[place + 1], order[place]
            self.assertEqual(asked(order), [1])

    def test_the_same_upside_down(self):
        self.assertEqual(SAME_UPSIDE_DOWN, [0, 12, 18, 30, 33, 45, 51, 63])
        for h in SAME_UPSIDE_DOWN:
            order = by_pairs([h] + list(range(64)))
            self.assertEqual(order[:2], [h, 63 - h])
            self.assertEqual(asked(order), [1])
            # Itself, which it is upside down, has stood ahead; another one isn't its opposite.
            self.assertEqual(asked(with_number(order, 1, h)), [0, 1])
            self.assertEqual(asked(with_number(order, 1, order[2])), [0, 1])

    def test_the_opposite_in_the_place_of_the_one_upside_down(self):
        # 1 upside down is 32; its opposite, 62, doesn't do.
        order = by_pairs([1] + list(range(64)))
        self.assertEqual(order[:2], [1, 32])
        self.assertEqual(asked(with_number(order, 1, 62)), [0, 1])

    def test_no_hexagram_at_each_place(self):
        for order in ORDERS:
            for place in range(64):
                for wrong in (64, 64 + order[place], 128 + order[place], GREATEST):
                    self.assertEqual(asked(with_number(order, place, wrong)), [0, place])

    def test_one_that_has_stood_ahead_at_each_place(self):
        for order in ORDERS:
            for place in range(1, 64):
                for ahead in (0, place // 2, place - 1):
                    self.assertEqual(asked(with_number(order, place, order[ahead])), [0, place])

    def test_a_pair_that_comes_again(self):
        for place in range(2, 64, 2):
            order = list(RISING)
            order[place:place + 2] = order[0:2]
            self.assertEqual(asked(order), [0, place])
            order[place:place + 2] = order[1], order[0]
            self.assertEqual(asked(order), [0, place])

    def test_not_the_partner_at_each_odd_place(self):
        for order in ORDERS:
            for place in range(1, 62, 2):
                changed = list(order)
                changed[place], changed[63] = order[63], order[place]
                self.assertEqual(asked(changed), [0, place])

    def test_all_hexagrams_in_another_order(self):
        self.assertEqual(asked(list(range(64))), [0, 1])
        self.assertEqual(asked(RISING[1:] + RISING[:1]), [0, 1])
        # One step further from the third on: what stands at even places there are the partners.
        self.assertEqual(asked(RISING[:2] + RISING[3:] + RISING[2:3]), [0, 3])

    def test_of_several_wrong_places_the_first(self):
        self.assertEqual(asked([64] * 64), [0, 0])
        self.assertEqual(asked([GREATEST] * 64), [0, 0])
        self.assertEqual(asked([0] * 64), [0, 1])
        self.assertEqual(asked([0, 63] * 32), [0, 2])
        self.assertEqual(asked(with_number(with_number(RISING, 40, 64), 21, 0)), [0, 21])
        self.assertEqual(asked(with_number(with_number(RISING, 63, 99), 62, 99)), [0, 62])

    def test_every_number_at_some_places(self):
        for place in (0, 1, 2, 31, 32, 62, 63):
            for number in range(70):
                order = with_number(STEPPING, place, number)
                self.assertEqual(asked(order), reference.pairs(order), (place, number))


if __name__ == "__main__":
    unittest.main()
