import contextlib
import inspect
import io
import random
import sys
import unittest
from unittest import mock

from stalklines.bundle import answers
from tests import reference
from tests.reference import (
    BECOMES, BEGINS, CAME, CAST, CHANCE, CORES, FAMILY, GREATEST, LINE, MOVING, ODDS, PAIRS, TURNED, split,
)

SEVERAL = (
    [LINE, 4, 4, 4, BEGINS, 22, ODDS, BEGINS, 21, ODDS, LINE, 1, 16, 1]
    + [CAST, 18] + [1] * 18 + [CAST, 18] + [1] * 7 + [0] + [1] * 10
    + [CHANCE, 64, 0, CHANCE, 0, 64, CHANCE, 0, 1, BECOMES, 64, BEGINS, 0, LINE, 20, 15, 11]
    + [MOVING, 6, MOVING, 7, CAME, 0, CAME, 64, TURNED, 11, TURNED, 64, FAMILY, 21, FAMILY, 64]
    + [PAIRS, 64] + list(range(64)) + [CORES, 5, CORES, 64, PAIRS, 64] + [GREATEST] * 64 + [BECOMES, 0]
)
SEVERAL_ANSWERED = [
    [6, 9, 8, 8],
    [-1],
    [0, 77, 1612, 4051193, 14556360, 424399, 939120, 5957, 26832],
    [0],
    [0, 0, 1, 386, 1925, 951, 1925, 84, 275],
    [-2, 1],
    [63, 63, 0],
    [-2, 7],
    [-1],
    [-1],
    [0, 0, 1],
    [-1],
    [-1],
    [9, 5, 4, 4],
    [0, 84 ** 6, 275 ** 6],
    [-1],
    [0, 951 ** 6, 1925 ** 6],
    [-1],
    [52, 52, 25, 21],
    [-1],
    [2, 21, 42],
    [-1],
    [0, 1],
    [4, 5, 10, 21, 42, 2],
    [-1],
    [0, 0],
    [0, 1539 ** 6, 1925 ** 6],
]


def refuse(*given, **named):
    raise AssertionError("something is done that the document rules out")


class Unchanging(list):
    """A list that fails as soon as anything would change it."""

    append = clear = extend = insert = pop = remove = reverse = sort = refuse
    __setitem__ = __delitem__ = __iadd__ = __imul__ = refuse


def forty_calls(chooser):
    """Forty calls, each of the twelve among them, eight of came, some of them refused."""
    pairs = [h for first in range(64) for h in (first, reference.partner(first)) if first <= reference.partner(first)]
    chosen = [CAME] * 8 + [call for call in range(12) if call != CAME]
    chosen += chooser.choices([call for call in range(12) if call != CAME], k=40 - len(chosen))
    chooser.shuffle(chosen)
    return [[call] + numbers_for(call, pairs, chooser) for call in chosen]


def numbers_for(call, pairs, chooser):
    """What stands behind a call's number."""
    if call == BEGINS:
        return [chooser.choice(reference.STALK_NUMBERS * 3 + [0, 17, 22, 98, 101, GREATEST])]
    if call in (LINE, CAST):
        count = 3 if call == LINE else 18
        cuts = [chooser.randint(1, 11) for place in range(count)]
        cuts[chooser.randrange(count)] = chooser.choice([0, 3, 4, 5, 16, 20, 48, GREATEST])
        return cuts if call == LINE else [18] + cuts
    if call == PAIRS:
        order = list(pairs)
        if chooser.random() < 0.8:
            order[chooser.randrange(64)] = chooser.choice([chooser.randrange(64), 64, GREATEST])
        return [64] + order
    if call == ODDS:
        return []
    most = 7 if call == MOVING else 68
    return [chooser.choice([chooser.randint(0, most)] * 9 + [GREATEST]) for number in range(1 + (call == CHANCE))]


class Interface(unittest.TestCase):
    def test_several_calls_refused_ones_among_them(self):
        given = answers(SEVERAL)
        self.assertEqual(split(given), SEVERAL_ANSWERED)
        self.assertEqual(given[:7], [4, 6, 9, 8, 8, 1, -1])

    def test_a_list_of_whole_numbers_comes_back(self):
        given = answers(SEVERAL)
        self.assertIs(type(given), list)
        self.assertEqual({type(number) for number in given}, {int})

    def test_what_is_handed_in_is_not_changed(self):
        calls = Unchanging(SEVERAL)
        given = answers(calls)
        self.assertEqual(list(calls), SEVERAL)
        self.assertIsNot(given, calls)

    def test_a_second_time_is_as_the_first(self):
        first = answers(SEVERAL)
        kept = list(first)
        first.clear()
        self.assertEqual(answers(SEVERAL), kept)

    def test_each_time_the_bundle_is_new(self):
        at_first = answers([ODDS])
        answers([BEGINS, 97])
        self.assertEqual(answers([ODDS]), at_first)

    def test_only_begins_changes_the_bundle(self):
        asking = [[LINE, 4, 4, 4], [ODDS], [CAST, 18] + [4] * 18, [CHANCE, 5, 6], [PAIRS, 64] + list(range(64))]
        asking += [[call, 6] for call in (BECOMES, MOVING, CAME, TURNED, FAMILY, CORES)]
        refused = [[LINE, 4, 4, 0], [CAST, 18] + [4] * 17 + [0], [CHANCE, 64, 6], [BEGINS, 98]]
        refused += [[call, 64] for call in (BECOMES, MOVING, CAME, TURNED, FAMILY, CORES)]
        for call in asking + refused:
            self.assertEqual(split(answers(call + [ODDS]))[1], split(answers([ODDS]))[0], call)

    def test_forty_calls(self):
        calls = ([CAST, 18] + [4] * 18) * 40
        self.assertEqual(answers(calls), [3, 0, 63, 63] * 40)

    def test_forty_orders(self):
        calls = ([PAIRS, 64] + list(range(64))) * 40
        self.assertEqual(answers(calls), [2, 0, 1] * 40)

    def test_the_twelve_calls_mixed(self):
        for seed in range(60):
            mixed = forty_calls(random.Random(seed))
            self.assertEqual({call[0] for call in mixed}, set(range(12)))
            self.assertEqual(sum(call[0] == CAME for call in mixed), 8)
            row = [number for call in mixed for number in call]
            calls = Unchanging(row)
            given = answers(calls)
            self.assertEqual(split(given), reference.all_answered(mixed), seed)
            self.assertEqual(list(calls), row)
            self.assertEqual(answers(row), given)

    def test_calls_are_not_nested_deep(self):
        calls = SEVERAL + ([PAIRS, 64] + list(range(64))) * 10
        awaited = answers(calls)
        limit = sys.getrecursionlimit()
        sys.setrecursionlimit(len(inspect.stack()) + 20)
        try:
            given = answers(calls)
        finally:
            sys.setrecursionlimit(limit)
        self.assertEqual(given, awaited)

    def test_nothing_is_printed_read_or_imported(self):
        modules = set(sys.modules)
        printed = io.StringIO()
        with contextlib.redirect_stdout(printed), contextlib.redirect_stderr(printed):
            with mock.patch("builtins.open", refuse), mock.patch("builtins.input", refuse):
                with mock.patch("builtins.__import__", refuse):
                    answers(SEVERAL)
        self.assertEqual(printed.getvalue(), "")
        self.assertEqual(set(sys.modules), modules)


if __name__ == "__main__":
    unittest.main()
