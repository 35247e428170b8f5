"""The call that asks for another weight: change."""

from barcontest.calling import left_in_order, standing
from barcontest.preparing import is_weight

MOST_CHANGES = 2


def comes_behind_the_last(contest, lifter):
    """Whether, of as much as the bar weighs, whoever tried last was to be called ahead of this lifter."""
    # Nobody asks for 0: the bar weighs something, so somebody has tried in this lift.
    tried_last = contest.who_tried_last()
    # Who tried last is taken as they were when they were called: without that attempt.
    attempts_till_then = contest.record(tried_last).attempts[:-1]
    return standing(tried_last, attempts_till_then) < standing(lifter, contest.record(lifter).attempts)


def may_ask_for(contest, lifter, weight):
    """Whether the weight is neither too little behind the lifter's last attempt nor for the bar."""
    attempts = contest.record(lifter).attempts
    if attempts and weight < attempts[-1].asks_for():
        return False
    if weight == contest.bar:
        return comes_behind_the_last(contest, lifter)
    return weight > contest.bar


def change(contest, lifter, weight):
    """Ask for another weight, and tell who is up then.

    -1 for a wrong number, -4 if no lift is on, -5 if no attempt is left, -6 behind two changes,
    -7 if it may not be asked for.
    """
    if not contest.has_lifter(lifter) or not is_weight(weight):
        return [-1]
    if not contest.is_on():
        return [-4]
    record = contest.record(lifter)
    if not record.is_left():
        return [-5]
    if record.changes == MOST_CHANGES:
        return [-6]
    if not may_ask_for(contest, lifter, weight):
        return [-7]
    record.wanted = weight
    record.changes += 1
    is_up = left_in_order(contest)[0]
    return [record.changes, is_up, contest.record(is_up).wanted]
