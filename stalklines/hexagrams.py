"""Hexagrams by their numbers: how they turn, what they wrap, and orders of them."""

LINES_OF_A_HEXAGRAM = 6
LINES_OF_A_HALF = 3
LAST_HEXAGRAM = 63

# Where in the hexagram the lines of its core stand.
PLACES_OF_THE_CORE = (1, 2, 3, 2, 3, 4)


def lines_of(hexagram):
    """Its lines from the lowest up, 1 for a whole one and 0 for a broken one."""
    return [(hexagram >> place) & 1 for place in range(LINES_OF_A_HEXAGRAM)]


def hexagram_of(lines):
    """The number of the hexagram that has these lines."""
    return sum([line << place for place, line in enumerate(lines)])


def upside_down(hexagram):
    """The hexagram with its lines from the highest down."""
    return hexagram_of(list(reversed(lines_of(hexagram))))


def opposite(hexagram):
    """The hexagram with each line of the other kind."""
    return hexagram_of([1 - line for line in lines_of(hexagram)])


def exchanged(hexagram):
    """The hexagram with its lower and its upper half in each other's place."""
    lines = lines_of(hexagram)
    return hexagram_of(lines[LINES_OF_A_HALF:] + lines[:LINES_OF_A_HALF])


def core(hexagram):
    """The hexagram that is wrapped within it."""
    lines = lines_of(hexagram)
    return hexagram_of([lines[place] for place in PLACES_OF_THE_CORE])


def partner(hexagram):
    """The hexagram that stands behind it in an order by pairs."""
    turned = upside_down(hexagram)
    return opposite(hexagram) if turned == hexagram else turned


def family_of(hexagram):
    """All hexagrams of its family, rising."""
    members = {hexagram: True}
    to_turn = [hexagram]
    while to_turn:
        member = to_turn.pop()
        for reached in (upside_down(member), opposite(member), exchanged(member)):
            if reached not in members:
                members[reached] = True
                to_turn.append(reached)
    return sorted(members)


def cores_from(hexagram):
    """The hexagram, its core, the core of that and so on, up to the last one that wasn't there before."""
    met = []
    reached = hexagram
    while reached not in met:
        met.append(reached)
        reached = core(reached)
    return met


def first_wrong_place(order):
    """The first place at which an order isn't one by pairs; behind its last place if there is none."""
    ahead = {}
    for place, number in enumerate(order):
        if number > LAST_HEXAGRAM or number in ahead:
            return place
        if place % 2 == 1 and number != partner(order[place - 1]):
            return place
        ahead[number] = True
    return len(order)
