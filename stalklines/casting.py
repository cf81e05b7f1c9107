"""Changes of stalks, the lines they tell, and how likely these are."""

from stalklines.hexagrams import LAST_HEXAGRAM, LINES_OF_A_HEXAGRAM, lines_of

CHANGES_OF_A_LINE = 3

GREAT = (8, 9)
WHOLE = (7, 9)
MOVING = (6, 9)


def left_over(heap):
    """How many stalks are taken when a heap is counted off by fours."""
    if heap == 0:
        return 0
    rest = heap % 4
    return 4 if rest == 0 else rest


def taken_by_cut(in_hand, cut):
    """How many stalks one change takes."""
    right = in_hand - cut - 1
    return 1 + left_over(cut) + left_over(right)


def taken_by_cuts(stalks, cuts):
    """What each change takes, up to the first cut that can't be: then the list is shorter than the cuts."""
    taken = []
    in_hand = stalks
    for cut in cuts:
        if cut == 0 or cut >= in_hand:
            return taken
        took = taken_by_cut(in_hand, cut)
        taken.append(took)
        in_hand -= took
    return taken


def line_of_greats(greats):
    """The line told by how many of its changes are great."""
    return 9 - greats


def line_told(taken):
    """The line told by what each of its changes took."""
    return line_of_greats(len([took for took in taken if took in GREAT]))


def set_of_lines(lines, kinds):
    """The number of the set of those lines that are among the kinds."""
    number = 0
    for place, line in enumerate(lines):
        if line in kinds:
            number += 1 << place
    return number


def line_at(hexagram, moving, place):
    """The line at a place of a hexagram of which a set of lines moves."""
    moves = (moving >> place) & 1
    if (hexagram >> place) & 1:
        return 9 if moves else 7
    return 6 if moves else 8


def common_divisor(one, other):
    """The greatest number that divides both."""
    while other > 0:
        rest = one % other
        one = other
        other = rest
    return one


# In lowest terms from the start, since that is how every chance is told.
class Fraction:
    def __init__(self, above, below):
        divisor = common_divisor(above, below)
        self.above = above // divisor
        self.below = below // divisor

    def plus(self, other):
        return Fraction(self.above * other.below + other.above * self.below, self.below * other.below)

    def times(self, other):
        return Fraction(self.above * other.above, self.below * other.below)

    def exceeds(self, other):
        return self.above * other.below > other.above * self.below

    def told(self):
        return [self.above, self.below]


def product_of(fractions):
    """The chance that all of several things come, none of which hangs on the others."""
    product = Fraction(1, 1)
    for fraction in fractions:
        product = product.times(fraction)
    return product


def cuts_by_taken(in_hand):
    """For each number of stalks that a change may take, how many of the cuts take as many."""
    cuts = {}
    for cut in range(1, in_hand):
        took = taken_by_cut(in_hand, cut)
        cuts[took] = cuts.get(took, 0) + 1
    return cuts


def after_change(chances):
    """The chances of each (stalks in hand, great changes) after one more change."""
    following = {}
    for state, chance in chances.items():
        in_hand = state[0]
        for took, cuts in cuts_by_taken(in_hand).items():
            greats = state[1] + (1 if took in GREAT else 0)
            reached = (in_hand - took, greats)
            share = chance.times(Fraction(cuts, in_hand - 1))
            following[reached] = following.get(reached, Fraction(0, 1)).plus(share)
    return following


def line_odds(stalks):
    """How likely each line, 6 to 9, is from so many stalks."""
    chances = {(stalks, 0): Fraction(1, 1)}
    for change in range(CHANGES_OF_A_LINE):
        chances = after_change(chances)
    odds = {}
    # With few stalks some lines never come: they too are told, as 0.
    for line in range(6, 10):
        odds[line] = Fraction(0, 1)
    for state, chance in chances.items():
        line = line_of_greats(state[1])
        odds[line] = odds[line].plus(chance)
    return odds


def chance_of(odds, hexagram, moving):
    """How likely it is that a hexagram is cast and just a set of its lines moves."""
    return product_of([odds[line_at(hexagram, moving, place)] for place in range(LINES_OF_A_HEXAGRAM)])


def chance_of_becoming(odds, hexagram):
    """How likely it is that what is cast becomes a hexagram."""
    # A line comes to its kind by being so at rest, or by moving from the other kind.
    whole = odds[7].plus(odds[6])
    broken = odds[8].plus(odds[9])
    return product_of([whole if line == 1 else broken for line in lines_of(hexagram)])


def chance_of_moving(odds, count):
    """How likely it is that just so many lines of a hexagram move."""
    moves = odds[6].plus(odds[9])
    rests = odds[7].plus(odds[8])
    ways = 1
    for chosen in range(count):
        ways = ways * (LINES_OF_A_HEXAGRAM - chosen) // (chosen + 1)
    return product_of([Fraction(ways, 1)] + [moves] * count + [rests] * (LINES_OF_A_HEXAGRAM - count))


def likeliest_origin(odds, hexagram):
    """The hexagram that was most likely cast if what it became is the one told."""
    likeliest = 0
    greatest = Fraction(0, 1)
    # Rising, and only a greater chance is taken: so of several as likely the least number stays.
    for origin in range(LAST_HEXAGRAM + 1):
        chance = chance_of(odds, origin, origin ^ hexagram)
        if chance.exceeds(greatest):
            likeliest = origin
            greatest = chance
    return likeliest
