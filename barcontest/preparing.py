"""The calls ahead of the first attempt: begin, ask, start."""

from barcontest.calling import up

MOST_LIFTERS = 24
HIGHEST_TEAM = 20
HEAVIEST = 500


def is_team(team):
    return 0 <= team <= HIGHEST_TEAM


def is_weight(weight):
    return 1 <= weight <= HEAVIEST


def begin(contest, teams):
    """Make a new contest; -1 if the lifters are too few or too many, or a team is none."""
    if not 1 <= len(teams) <= MOST_LIFTERS:
        return [-1]
    if not all([is_team(team) for team in teams]):
        return [-1]
    contest.renew(teams)
    return [len(teams)]


def ask(contest, lifter, first, second):
    """Put down the first weight of each lift; -1 for a wrong number, -3 once it has begun."""
    if not contest.has_lifter(lifter) or not is_weight(first) or not is_weight(second):
        return [-1]
    if contest.has_begun:
        return [-3]
    contest.records[0][lifter].wanted = first
    contest.records[1][lifter].wanted = second
    return [0]


def start(contest):
    """Put the first lift on; -2 without lifters, -3 once it has begun, -4 if one has not asked."""
    if not contest.teams:
        return [-2]
    if contest.has_begun:
        return [-3]
    # Whoever asks, asks for both lifts at once, so the first one tells for both.
    if any([record.wanted == 0 for record in contest.records[0]]):
        return [-4]
    contest.has_begun = True
    return up(contest)
