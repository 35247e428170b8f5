"""The calls that tell what has been done: card, ranked, points."""

from barcontest.preparing import is_team
from barcontest.state import GOOD, LIFTS

# The orders of the lifts have the lifts' numbers; behind them comes the order of both together.
BOTH = 2


def card(contest, lifter, lift):
    """What the lifter has done and asks for in the lift; -1 for a wrong number."""
    if not contest.has_lifter(lifter) or not 0 <= lift < LIFTS:
        return [-1]
    record = contest.records[lift][lifter]
    answer = [len(record.attempts), record.wanted, record.changes]
    for attempt in record.attempts:
        answer.append(attempt.weight)
        answer.append(attempt.good)
    return answer


def best_attempt(record):
    """The heaviest good attempt, of as much the earliest; None if none is good."""
    best = None
    for attempt in record.attempts:
        if attempt.good == GOOD and (best is None or attempt.weight > best.weight):
            best = attempt
    return best


def achieved_in_lift(contest, lift):
    """Of each lifter with a good attempt (lifter, weight, turn)."""
    found = []
    for lifter in range(len(contest.teams)):
        best = best_attempt(contest.records[lift][lifter])
        if best is not None:
            found.append((lifter, best.weight, best.turn))
    return found


def achieved_in_both(contest):
    """Of each lifter with a good attempt in each lift (lifter, both weights together, turn in lift 1)."""
    found = []
    for lifter in range(len(contest.teams)):
        first = best_attempt(contest.records[0][lifter])
        second = best_attempt(contest.records[1][lifter])
        if first is not None and second is not None:
            found.append((lifter, first.weight + second.weight, second.turn))
    return found


def placed(contest, order):
    """The lifters in the order, the first ahead, as (lifter, weight, turn)."""
    achieved = achieved_in_both(contest) if order == BOTH else achieved_in_lift(contest, order)
    return sorted(achieved, key=lambda entry: (-entry[1], entry[2]))


def ranked(contest, order):
    """How many are in the order, and of each the lifter and the weight; -1 if there is no such order."""
    if not 0 <= order <= BOTH:
        return [-1]
    entries = placed(contest, order)
    answer = [len(entries)]
    for entry in entries:
        answer.append(entry[0])
        answer.append(entry[1])
    return answer


def worth(place):
    """What a place is worth; places count from 1 on."""
    if place == 1:
        return 28
    if place == 2:
        return 25
    # From the third place on it goes down by one each, to 1 for the 25th.
    return 26 - place


def points(contest, team):
    """What the places of the team's lifters are worth in all orders; -1 if there is no such team."""
    if not is_team(team):
        return [-1]
    together = 0
    for order in range(BOTH + 1):
        for place, entry in enumerate(placed(contest, order), start=1):
            if contest.teams[entry[0]] == team:
                together += worth(place)
    return [together]
