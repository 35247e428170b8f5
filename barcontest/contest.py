"""Calls on one contest, read from one list of numbers and answered in another."""

from barcontest.attempting import reverse, try_one
from barcontest.calling import order, up
from barcontest.changing import change
from barcontest.preparing import ask, begin, start
from barcontest.results import card, points, ranked
from barcontest.state import Contest

# How many numbers stand behind a call's own number; begin (1) tells that itself.
NUMBERS_BEHIND = {2: 3, 3: 0, 4: 0, 5: 0, 6: 1, 7: 2, 8: 0, 9: 2, 10: 1, 11: 1}


def answer_one(contest, call, given):
    """What one call answers; given are the numbers that it was called with."""
    if call == 1:
        return begin(contest, given)
    if call == 2:
        return ask(contest, given[0], given[1], given[2])
    if call == 3:
        return start(contest)
    if call == 4:
        return up(contest)
    if call == 5:
        return order(contest)
    if call == 6:
        return try_one(contest, given[0])
    if call == 7:
        return change(contest, given[0], given[1])
    if call == 8:
        return reverse(contest)
    if call == 9:
        return card(contest, given[0], given[1])
    if call == 10:
        return ranked(contest, given[0])
    return points(contest, given[0])


def answers(calls):
    """Answer all the calls, each answer with how many numbers it has ahead of it."""
    contest = Contest()
    told = []
    at = 0
    while at < len(calls):
        call = calls[at]
        if call == 1:
            first = at + 2
            behind = first + calls[at + 1]
        else:
            first = at + 1
            behind = first + NUMBERS_BEHIND[call]
        answer = answer_one(contest, call, calls[first:behind])
        told.append(len(answer))
        told.extend(answer)
        at = behind
    return told
