"""What the document says, worked out step by step in another way than the program does."""

from collections import Counter
from fractions import Fraction
from functools import cache

BEGINS, LINE, ODDS, CAST, CHANCE, BECOMES, MOVING, CAME, TURNED, FAMILY, CORES, PAIRS = range(12)

STALK_NUMBERS = list(range(21, 98, 4))
GREATEST = 4294967295


@cache
def counted_off(heap):
    while heap > 4:
        heap -= 4
    return heap


@cache
def change(in_hand, cut):
    left, right = cut, in_hand - cut
    right -= 1
    return 1 + counted_off(left) + counted_off(right)


def line(stalks, cuts):
    """The answer to a line: the line and what was taken, or the refusal."""
    taken = []
    in_hand = stalks
    for place, cut in enumerate(cuts):
        if not 1 <= cut <= in_hand - 1:
            return [-2, place]
        taken.append(change(in_hand, cut))
        in_hand -= taken[-1]
    greats = sum(1 for took in taken if took in (8, 9))
    return [{0: 9, 1: 8, 2: 7, 3: 6}[greats]] + taken


def cast(stalks, cuts):
    """The answer to a cast."""
    hexagram = moving = became = 0
    for place in range(6):
        answer = line(stalks, cuts[3 * place:3 * place + 3])
        if answer[0] == -2:
            return [-2, 3 * place + answer[1]]
        bit = 2 ** place
        hexagram += bit if answer[0] in (9, 7) else 0
        moving += bit if answer[0] in (9, 6) else 0
        became += bit if answer[0] in (7, 6) else 0
    return [hexagram, moving, became]


@cache
def odds(stalks):
    """The chances of 6 to 9, each cut of each change walked by itself."""
    cuts = Counter()
    for one in range(1, stalks):
        first = change(stalks, one)
        second = stalks - first
        for two in range(1, second):
            between = change(second, two)
            third = second - between
            for three in range(1, third):
                greats = sum(took in (8, 9) for took in (first, between, change(third, three)))
                cuts[9 - greats, (stalks - 1) * (second - 1) * (third - 1)] += 1
    chances = dict.fromkeys((6, 7, 8, 9), Fraction(0))
    for (kind, ways), times in cuts.items():
        chances[kind] += Fraction(times, ways)
    return chances


def told(fraction):
    return [fraction.numerator, fraction.denominator]


def kinds(hexagram, moving):
    """The six lines, 6 to 9, of a hexagram of which a set of lines moves."""
    lines = []
    for _ in range(6):
        hexagram, whole = divmod(hexagram, 2)
        moving, moves = divmod(moving, 2)
        lines.append({(1, 1): 9, (1, 0): 7, (0, 1): 6, (0, 0): 8}[whole, moves])
    return lines


def chance(line_odds, hexagram, moving):
    product = Fraction(1)
    for kind in kinds(hexagram, moving):
        product *= line_odds[kind]
    return product


def drawn(hexagram):
    """The lines as a text from the lowest up: W for a whole one, B for a broken one."""
    return "".join("W" if kind == 7 else "B" for kind in kinds(hexagram, 0))


NUMBER_OF = {drawn(hexagram): hexagram for hexagram in range(64)}


def upside_down(hexagram):
    return NUMBER_OF[drawn(hexagram)[::-1]]


def opposite(hexagram):
    return NUMBER_OF[drawn(hexagram).translate(str.maketrans("WB", "BW"))]


def exchanged(hexagram):
    lines = drawn(hexagram)
    return NUMBER_OF[lines[3:] + lines[:3]]


def core(hexagram):
    lines = drawn(hexagram)
    return NUMBER_OF[lines[1] + lines[2] + lines[3] + lines[2] + lines[3] + lines[4]]


def partner(hexagram):
    turned = upside_down(hexagram)
    return turned if turned != hexagram else opposite(hexagram)


def family(hexagram):
    """The answer to family: turned again and again until nothing more comes."""
    members, before = {hexagram}, set()
    while members != before:
        before = set(members)
        for turn in (upside_down, opposite, exchanged):
            members |= {turn(member) for member in before}
    return [len(members)] + sorted(members)


def cores(hexagram):
    """The answer to cores."""
    places = {}
    while hexagram not in places:
        places[hexagram] = len(places)
        hexagram = core(hexagram)
    return [len(places)] + list(places) + [places[hexagram]]


def came(line_odds, hexagram):
    """The answer to came: the greatest chance, then the least number that has it."""
    chances = [chance(line_odds, origin, origin ^ hexagram) for origin in range(64)]
    greatest = max(chances)
    return [chances.index(greatest)] + told(greatest)


def pairs(order):
    """The answer to pairs."""
    for place, number in enumerate(order):
        right = number in range(64) and number not in order[:place]
        if right and place % 2 == 1:
            right = number == partner(order[place - 1])
        if not right:
            return [0, place]
    return [1]


def becomes(line_odds, hexagram):
    return sum(chance(line_odds, hexagram ^ moving, moving) for moving in range(64))


def moving(line_odds, count):
    """The sums of all chances by how many lines move, line by line."""
    moves = line_odds[6] + line_odds[9]
    by_count = [Fraction(1)] + [Fraction(0)] * 6
    for _ in range(6):
        by_count = [
            by_count[many] * (1 - moves) + (by_count[many - 1] * moves if many else 0) for many in range(7)
        ]
    return by_count[count]


def answered(stalks, call, *rest):
    """The answer to any call but begins, on a bundle of so many stalks."""
    line_odds = odds(stalks)
    if call == LINE:
        return line(stalks, rest)
    if call == ODDS:
        return [0] + [number for kind in (6, 7, 8, 9) for number in told(line_odds[kind])]
    if call == CAST:
        return cast(stalks, rest[1:])
    if call == PAIRS:
        return pairs(rest[1:])
    if max(rest) > (6 if call == MOVING else 63):
        return [-1]
    if call in (CHANCE, BECOMES, MOVING):
        work_out = {CHANCE: chance, BECOMES: becomes, MOVING: moving}[call]
        return [0] + told(work_out(line_odds, *rest))
    if call == CAME:
        return came(line_odds, *rest)
    if call == TURNED:
        return [turn(*rest) for turn in (upside_down, opposite, exchanged, core)]
    return {FAMILY: family, CORES: cores}[call](*rest)


def all_answered(calls):
    """The answers to several calls, each one a list, on one new bundle."""
    stalks = 49
    given = []
    for call in calls:
        if call[0] != BEGINS:
            given.append(answered(stalks, *call))
        elif call[1] in STALK_NUMBERS:
            stalks = call[1]
            given.append([0])
        else:
            given.append([-1])
    return given


def split(given):
    """The answers of each call, by the counts ahead of them."""
    answers = []
    start = 0
    while start < len(given):
        end = start + 1 + given[start]
        answers.append(given[start + 1:end])
        start = end
    if start != len(given):
        raise ValueError("the last answer is cut short")
    return answers
