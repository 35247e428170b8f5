"""The calls that make an attempt and judge it anew: try_one, reverse."""

from barcontest.calling import left_in_order
from barcontest.state import GOOD, NOT_GOOD, PASSED_BY, Attempt


def make_attempt(contest, lifter, good):
    record = contest.record(lifter)
    contest.bar = record.wanted
    contest.history.append((lifter, contest.lift))
    attempt = Attempt(record.wanted, good, len(contest.history))
    record.attempts.append(attempt)
    record.wanted = attempt.asks_for()
    record.changes = 0


def try_one(contest, good):
    """Who is up tries; -1 if good is no such number, -4 if no lift is on."""
    if not NOT_GOOD <= good <= PASSED_BY:
        return [-1]
    if not contest.is_on():
        return [-4]
    lifter = left_in_order(contest)[0]
    make_attempt(contest, lifter, good)
    weight = contest.bar
    if not left_in_order(contest):
        contest.next_lift()
    return [lifter, weight, contest.lift]


def turn_round(record):
    """Make the last attempt good if it was not, and the other way."""
    attempt = record.attempts[-1]
    attempt.good = NOT_GOOD if attempt.good == GOOD else GOOD
    if record.changes == 0:
        record.wanted = attempt.asks_for()
    else:
        # A change says what the lifter wants: it holds unless the attempt now asks for more.
        record.wanted = max(record.wanted, attempt.asks_for())


def reverse(contest):
    """Turn the last attempt of all round; -4 if there was none, -5 if it was passed by."""
    if not contest.history:
        return [-4]
    lifter = contest.history[-1][0]
    lift = contest.history[-1][1]
    record = contest.records[lift][lifter]
    if record.attempts[-1].good == PASSED_BY:
        return [-5]
    turn_round(record)
    return [lifter, record.attempts[-1].good]
