"""The order of calling, and who is up by it."""


def standing(lifter, attempts):
    """Of those who ask for as much, whoever has the least of these is called first."""
    # Turns count from 1 on, so who has made no attempt yet comes earliest.
    last_turn = attempts[-1].turn if attempts else 0
    return (len(attempts), last_turn, lifter)


def calling_rank(contest, lifter):
    """Whoever has the least of these is called first."""
    record = contest.record(lifter)
    return (record.wanted, standing(lifter, record.attempts))


def left_in_order(contest):
    """Those left in the lift that is on, in the order of calling."""
    left = [lifter for lifter in range(len(contest.teams)) if contest.record(lifter).is_left()]
    return sorted(left, key=lambda lifter: calling_rank(contest, lifter))


def up(contest):
    """Who is up, the weight, the seconds, which attempt it is, the lift; -4 if no lift is on."""
    if not contest.is_on():
        return [-4]
    lifter = left_in_order(contest)[0]
    record = contest.record(lifter)
    seconds = 120 if contest.who_tried_last() == lifter else 60
    return [lifter, record.wanted, seconds, len(record.attempts) + 1, contest.lift]


def order(contest):
    """How many are left, and of each the lifter and the weight; -4 if no lift is on."""
    if not contest.is_on():
        return [-4]
    left = left_in_order(contest)
    answer = [len(left)]
    for lifter in left:
        answer.append(lifter)
        answer.append(contest.record(lifter).wanted)
    return answer
