"""Many calls asked of the program, in lists no longer than the document allows."""

from stalklines.bundle import answers
from tests.reference import BEGINS, split


def asked(stalks, calls, at_once=39):
    """The answers to any number of calls on a bundle of so many stalks; at_once is how many go into one list."""
    given = []
    for start in range(0, len(calls), at_once):
        row = [BEGINS, stalks]
        for call in calls[start:start + at_once]:
            row.extend(call)
        given.extend(split(answers(row))[1:])
    return given
