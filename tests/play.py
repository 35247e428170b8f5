"""Calls as texts of a play: built by name, handed in as one list, the answers taken apart again."""

from barcontest.contest import answers

LOWEST = -2147483648
HIGHEST = 2147483647

START = [3]
UP = [4]
ORDER = [5]
GOOD = [6, 1]
NOT_GOOD = [6, 0]
PASSED_BY = [6, 2]
REVERSE = [8]


def begin(*teams):
    return [1, len(teams), *teams]


def ask(lifter, first, second):
    return [2, lifter, first, second]


def try_one(good):
    return [6, good]


def change(lifter, weight):
    return [7, lifter, weight]


def card(lifter, lift):
    return [9, lifter, lift]


def ranked(order):
    return [10, order]


def points(team):
    return [11, team]


def started(*weights):
    """The calls up to the start, with a lifter for each pair of weights."""
    calls = [begin(*[0 for pair in weights])]
    for lifter, (first, second) in enumerate(weights):
        calls.append(ask(lifter, first, second))
    return calls + [START]


def over(*weights):
    """The calls up to the end of a contest in which all attempts are good."""
    return started(*weights) + [GOOD] * (6 * len(weights))


def in_one_list(calls):
    return [number for call in calls for number in call]


def taken_apart(told):
    """The answers, one list each."""
    found = []
    at = 0
    while at < len(told):
        behind = at + 1 + told[at]
        found.append(told[at + 1:behind])
        at = behind
    return found


def played(calls):
    """What each call answers."""
    return taken_apart(answers(in_one_list(calls)))


def last(calls):
    """What the last call answers."""
    return played(calls)[-1]
