"""The calls about one bundle of stalks, and what they answer."""

from stalklines.casting import (
    CHANGES_OF_A_LINE,
    MOVING,
    WHOLE,
    chance_of,
    chance_of_becoming,
    chance_of_moving,
    likeliest_origin,
    line_odds,
    line_told,
    set_of_lines,
    taken_by_cuts,
)
from stalklines.hexagrams import (
    LAST_HEXAGRAM,
    LINES_OF_A_HEXAGRAM,
    core,
    cores_from,
    exchanged,
    family_of,
    first_wrong_place,
    opposite,
    upside_down,
)

STALKS_AT_FIRST = 49
FEWEST_STALKS = 21
MOST_STALKS = 97
LAST_SET_OF_LINES = 63

OUT_OF_RANGE = -1
NO_SUCH_CUT = -2

BEGINS = 0
LINE = 1
ODDS = 2
CAST = 3
CHANCE = 4
BECOMES = 5
MOVING_LINES = 6
CAME = 7
TURNED = 8
FAMILY = 9
CORES = 10
PAIRS = 11

# By the call's number, how many numbers stand behind it; a cast and an order tell that themselves.
NUMBERS_BEHIND = {0: 1, 1: 3, 2: 0, 4: 2, 5: 1, 6: 1, 7: 1, 8: 1, 9: 1, 10: 1}


# Each method answers a call; it refuses before it stores anything, so that all is as it was then.
class Bundle:
    def __init__(self):
        self.stalks = STALKS_AT_FIRST

    def begins(self, stalks):
        if stalks < FEWEST_STALKS or stalks > MOST_STALKS or stalks % 4 != 1:
            return [OUT_OF_RANGE]
        self.stalks = stalks
        return [0]

    def line(self, cuts):
        taken = taken_by_cuts(self.stalks, cuts)
        if len(taken) < len(cuts):
            return [NO_SUCH_CUT, len(taken)]
        return [line_told(taken)] + taken

    def odds(self):
        answer = [0]
        odds = line_odds(self.stalks)
        for line in range(6, 10):
            answer.extend(odds[line].told())
        return answer

    def cast(self, cuts):
        lines = []
        for first in range(0, len(cuts), CHANGES_OF_A_LINE):
            cuts_of_line = cuts[first:first + CHANGES_OF_A_LINE]
            taken = taken_by_cuts(self.stalks, cuts_of_line)
            if len(taken) < len(cuts_of_line):
                return [NO_SUCH_CUT, first + len(taken)]
            lines.append(line_told(taken))
        hexagram = set_of_lines(lines, WHOLE)
        moving = set_of_lines(lines, MOVING)
        return [hexagram, moving, hexagram ^ moving]

    def chance(self, hexagram, moving):
        if hexagram > LAST_HEXAGRAM or moving > LAST_SET_OF_LINES:
            return [OUT_OF_RANGE]
        return [0] + chance_of(line_odds(self.stalks), hexagram, moving).told()

    def becomes(self, hexagram):
        if hexagram > LAST_HEXAGRAM:
            return [OUT_OF_RANGE]
        return [0] + chance_of_becoming(line_odds(self.stalks), hexagram).told()

    def moving(self, count):
        if count > LINES_OF_A_HEXAGRAM:
            return [OUT_OF_RANGE]
        return [0] + chance_of_moving(line_odds(self.stalks), count).told()

    def came(self, hexagram):
        if hexagram > LAST_HEXAGRAM:
            return [OUT_OF_RANGE]
        odds = line_odds(self.stalks)
        origin = likeliest_origin(odds, hexagram)
        return [origin] + chance_of(odds, origin, origin ^ hexagram).told()

    def turned(self, hexagram):
        if hexagram > LAST_HEXAGRAM:
            return [OUT_OF_RANGE]
        return [upside_down(hexagram), opposite(hexagram), exchanged(hexagram), core(hexagram)]

    def family(self, hexagram):
        if hexagram > LAST_HEXAGRAM:
            return [OUT_OF_RANGE]
        members = family_of(hexagram)
        return [len(members)] + members

    def cores(self, hexagram):
        if hexagram > LAST_HEXAGRAM:
            return [OUT_OF_RANGE]
        met = cores_from(hexagram)
        return [len(met)] + met + [met.index(core(met[-1]))]

    def pairs(self, order):
        wrong = first_wrong_place(order)
        if wrong < len(order):
            return [0, wrong]
        return [1]


def end_of_call(calls, start):
    """The place behind the call that begins at start."""
    if calls[start] in (CAST, PAIRS):
        return start + 2 + calls[start + 1]
    return start + 1 + NUMBERS_BEHIND[calls[start]]


def answer_of(bundle, call):
    """What the bundle answers to one call."""
    if call[0] == BEGINS:
        return bundle.begins(call[1])
    if call[0] == LINE:
        return bundle.line(call[1:])
    if call[0] == ODDS:
        return bundle.odds()
    if call[0] == CAST:
        return bundle.cast(call[2:])
    if call[0] == CHANCE:
        return bundle.chance(call[1], call[2])
    if call[0] == BECOMES:
        return bundle.becomes(call[1])
    if call[0] == MOVING_LINES:
        return bundle.moving(call[1])
    if call[0] == CAME:
        return bundle.came(call[1])
    if call[0] == TURNED:
        return bundle.turned(call[1])
    if call[0] == FAMILY:
        return bundle.family(call[1])
    if call[0] == CORES:
        return bundle.cores(call[1])
    return bundle.pairs(call[2:])


def answers(calls):
    """For each call on a new bundle: how many numbers are answered, then these."""
    bundle = Bundle()
    given = []
    start = 0
    while start < len(calls):
        end = end_of_call(calls, start)
        answer = answer_of(bundle, calls[start:end])
        given.append(len(answer))
        given.extend(answer)
        start = end
    return given
