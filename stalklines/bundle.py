"""The calls about one bundle of stalks, and what they answer."""

from stalklines.casting import (
    CHANGES_OF_A_LINE,
    LINES_OF_A_HEXAGRAM,
    MOVING,
    WHOLE,
    line_at,
    line_odds,
    line_told,
    product_of,
    set_of_lines,
    taken_by_cuts,
)

STALKS_AT_FIRST = 49
FEWEST_STALKS = 21
MOST_STALKS = 97
LAST_HEXAGRAM = 63
LAST_SET_OF_LINES = 63

OUT_OF_RANGE = -1
NO_SUCH_CUT = -2

BEGINS = 0
LINE = 1
ODDS = 2
CAST = 3
CHANCE = 4
BECOMES = 5

# By the call's number, how many numbers stand behind it; a cast tells that itself.
NUMBERS_BEHIND = {0: 1, 1: 3, 2: 0, 4: 2, 5: 1}


# Each method answers a call; it refuses before it stores anything, so that all is as it was then.
class Bundle:
    def __init__(self):
        self.stalks = STALKS_AT_FIRST

    def begins(self, stalks):
        if stalks < FEWEST_STALKS or stalks > MOST_STALKS or stalks % 4 != 1:
            return [OUT_OF_RANGE]
        self.stalks = stalks
        return [0]

    def line(self, cuts):
        taken = taken_by_cuts(self.stalks, cuts)
        if len(taken) < len(cuts):
            return [NO_SUCH_CUT, len(taken)]
        return [line_told(taken)] + taken

    def odds(self):
        answer = [0]
        odds = line_odds(self.stalks)
        for line in range(6, 10):
            answer.extend(odds[line].told())
        return answer

    def cast(self, cuts):
        lines = []
        for first in range(0, len(cuts), CHANGES_OF_A_LINE):
            cuts_of_line = cuts[first:first + CHANGES_OF_A_LINE]
            taken = taken_by_cuts(self.stalks, cuts_of_line)
            if len(taken) < len(cuts_of_line):
                return [NO_SUCH_CUT, first + len(taken)]
            lines.append(line_told(taken))
        hexagram = set_of_lines(lines, WHOLE)
        moving = set_of_lines(lines, MOVING)
        return [hexagram, moving, hexagram ^ moving]

    def chance(self, hexagram, moving):
        if hexagram > LAST_HEXAGRAM or moving > LAST_SET_OF_LINES:
            return [OUT_OF_RANGE]
        odds = line_odds(self.stalks)
        fractions = [odds[line_at(hexagram, moving, place)] for place in range(LINES_OF_A_HEXAGRAM)]
        return [0] + product_of(fractions).told()

    def becomes(self, hexagram):
        if hexagram > LAST_HEXAGRAM:
            return [OUT_OF_RANGE]
        odds = line_odds(self.stalks)
        # A line comes to its kind by being so at rest, or by moving from the other kind.
        whole = odds[7].plus(odds[6])
        broken = odds[8].plus(odds[9])
        fractions = [whole if (hexagram >> place) & 1 else broken for place in range(LINES_OF_A_HEXAGRAM)]
        return [0] + product_of(fractions).told()


def end_of_call(calls, start):
    """The place behind the call that begins at start."""
    if calls[start] == CAST:
        return start + 2 + calls[start + 1]
    return start + 1 + NUMBERS_BEHIND[calls[start]]


def answer_of(bundle, call):
    """What the bundle answers to one call."""
    if call[0] == BEGINS:
        return bundle.begins(call[1])
    if call[0] == LINE:
        return bundle.line(call[1:])
    if call[0] == ODDS:
        return bundle.odds()
    if call[0] == CAST:
        return bundle.cast(call[2:])
    if call[0] == CHANCE:
        return bundle.chance(call[1], call[2])
    return bundle.becomes(call[1])


def answers(calls):
    """For each call on a new bundle: how many numbers are answered, then these."""
    bundle = Bundle()
    given = []
    start = 0
    while start < len(calls):
        end = end_of_call(calls, start)
        answer = answer_of(bundle, calls[start:end])
        given.append(len(answer))
        given.extend(answer)
        start = end
    return given
