import contextlib
import io
import sys
import unittest

from stalklines.bundle import answers
from tests.reference import BECOMES, BEGINS, CAST, CHANCE, LINE, ODDS, split

SEVERAL = (
    [LINE, 4, 4, 4, BEGINS, 22, ODDS, BEGINS, 21, ODDS, LINE, 1, 16, 1]
    + [CAST, 18] + [1] * 18 + [CAST, 18] + [1] * 7 + [0] + [1] * 10
    + [CHANCE, 64, 0, CHANCE, 0, 64, CHANCE, 0, 1, BECOMES, 64, BEGINS, 0, LINE, 20, 15, 11]
)
SEVERAL_ANSWERED = [
    [6, 9, 8, 8],
    [-1],
    [0, 77, 1612, 4051193, 14556360, 424399, 939120, 5957, 26832],
    [0],
    [0, 0, 1, 386, 1925, 951, 1925, 84, 275],
    [-2, 1],
    [63, 63, 0],
    [-2, 7],
    [-1],
    [-1],
    [0, 0, 1],
    [-1],
    [-1],
    [9, 5, 4, 4],
]


def refuse(self, *rest):
    raise AssertionError("what was handed in is being changed")


class Unchanging(list):
    """A list that fails as soon as anything would change it."""

    append = clear = extend = insert = pop = remove = reverse = sort = refuse
    __setitem__ = __delitem__ = __iadd__ = __imul__ = refuse


class Interface(unittest.TestCase):
    def test_several_calls_refused_ones_among_them(self):
        given = answers(SEVERAL)
        self.assertEqual(split(given), SEVERAL_ANSWERED)
        self.assertEqual(given[:7], [4, 6, 9, 8, 8, 1, -1])

    def test_a_list_of_whole_numbers_comes_back(self):
        given = answers(SEVERAL)
        self.assertIs(type(given), list)
        self.assertEqual({type(number) for number in given}, {int})

    def test_what_is_handed_in_is_not_changed(self):
        calls = Unchanging(SEVERAL)
        given = answers(calls)
        self.assertEqual(list(calls), SEVERAL)
        self.assertIsNot(given, calls)

    def test_a_second_time_is_as_the_first(self):
        first = answers(SEVERAL)
        kept = list(first)
        first.clear()
        self.assertEqual(answers(SEVERAL), kept)

    def test_each_time_the_bundle_is_new(self):
        at_first = answers([ODDS])
        answers([BEGINS, 97])
        self.assertEqual(answers([ODDS]), at_first)

    def test_only_begins_changes_the_bundle(self):
        asking = ([LINE, 4, 4, 4], [ODDS], [CAST, 18] + [4] * 18, [CHANCE, 5, 6], [BECOMES, 7])
        refused = ([LINE, 4, 4, 0], [CAST, 18] + [4] * 17 + [0], [CHANCE, 64, 6], [BECOMES, 64], [BEGINS, 98])
        for call in asking + refused:
            self.assertEqual(split(answers(call + [ODDS]))[1], split(answers([ODDS]))[0], call)

    def test_forty_calls(self):
        calls = ([CAST, 18] + [4] * 18) * 40
        self.assertEqual(answers(calls), [3, 0, 63, 63] * 40)

    def test_nothing_is_printed_or_imported(self):
        modules = set(sys.modules)
        printed = io.StringIO()
        with contextlib.redirect_stdout(printed), contextlib.redirect_stderr(printed):
            answers(SEVERAL)
        self.assertEqual(printed.getvalue(), "")
        self.assertEqual(set(sys.modules), modules)


if __name__ == "__main__":
    unittest.main()
