"""What the document says, worked out step by step in another way than the program does."""

from collections import Counter
from fractions import Fraction
from functools import cache

BEGINS, LINE, ODDS, CAST, CHANCE, BECOMES = range(6)

STALK_NUMBERS = list(range(21, 98, 4))
GREATEST = 4294967295


@cache
def counted_off(heap):
    while heap > 4:
        heap -= 4
    return heap


@cache
def change(in_hand, cut):
    left, right = cut, in_hand - cut
    right -= 1
    return 1 + counted_off(left) + counted_off(right)


def line(stalks, cuts):
    """The answer to a line: the line and what was taken, or the refusal."""
    taken = []
    in_hand = stalks
    for place, cut in enumerate(cuts):
        if not 1 <= cut <= in_hand - 1:
            return [-2, place]
        taken.append(change(in_hand, cut))
        in_hand -= taken[-1]
    greats = sum(1 for took in taken if took in (8, 9))
    return [{0: 9, 1: 8, 2: 7, 3: 6}[greats]] + taken


def cast(stalks, cuts):
    """The answer to a cast."""
    hexagram = moving = became = 0
    for place in range(6):
        answer = line(stalks, cuts[3 * place:3 * place + 3])
        if answer[0] == -2:
            return [-2, 3 * place + answer[1]]
        bit = 2 ** place
        hexagram += bit if answer[0] in (9, 7) else 0
        moving += bit if answer[0] in (9, 6) else 0
        became += bit if answer[0] in (7, 6) else 0
    return [hexagram, moving, became]


@cache
def odds(stalks):
    """The chances of 6 to 9, each cut of each change walked by itself."""
    cuts = Counter()
    for one in range(1, stalks):
        first = change(stalks, one)
        second = stalks - first
        for two in range(1, second):
            between = change(second, two)
            third = second - between
            for three in range(1, third):
                greats = sum(took in (8, 9) for took in (first, between, change(third, three)))
                cuts[9 - greats, (stalks - 1) * (second - 1) * (third - 1)] += 1
    chances = dict.fromkeys((6, 7, 8, 9), Fraction(0))
    for (kind, ways), times in cuts.items():
        chances[kind] += Fraction(times, ways)
    return chances


def told(fraction):
    return [fraction.numerator, fraction.denominator]


def kinds(hexagram, moving):
    """The six lines, 6 to 9, of a hexagram of which a set of lines moves."""
    lines = []
    for _ in range(6):
        hexagram, whole = divmod(hexagram, 2)
        moving, moves = divmod(moving, 2)
        lines.append({(1, 1): 9, (1, 0): 7, (0, 1): 6, (0, 0): 8}[whole, moves])
    return lines


def chance(line_odds, hexagram, moving):
    product = Fraction(1)
    for kind in kinds(hexagram, moving):
        product *= line_odds[kind]
    return product


def split(given):
    """The answers of each call, by the counts ahead of them."""
    answers = []
    start = 0
    while start < len(given):
        end = start + 1 + given[start]
        answers.append(given[start + 1:end])
        start = end
    if start != len(given):
        raise ValueError("the last answer is cut short")
    return answers
