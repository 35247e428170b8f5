"""The call that makes an attempt: try_one."""

from barcontest.calling import left_in_order

NOT_GOOD = 0
GOOD = 1
PASSED_BY = 2


def wanted_behind(weight, good):
    """What is asked for behind such an attempt."""
    # This may pass the heaviest weight that can be asked for: that end is only for what a lifter says.
    return weight + 1 if good == GOOD else weight


def make_attempt(contest, lifter, good):
    record = contest.record(lifter)
    weight = record.wanted
    contest.history.append((lifter, contest.lift))
    record.attempts.append((weight, good, len(contest.history)))
    record.wanted = wanted_behind(weight, good)
    contest.bar = weight


def try_one(contest, good):
    """Who is up tries; -1 if good is no such number, -4 if no lift is on."""
    if not NOT_GOOD <= good <= PASSED_BY:
        return [-1]
    if not contest.is_on():
        return [-4]
    lifter = left_in_order(contest)[0]
    weight = contest.record(lifter).wanted
    make_attempt(contest, lifter, good)
    if not left_in_order(contest):
        contest.next_lift()
    return [lifter, weight, contest.lift]
