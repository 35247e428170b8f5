"""What a contest remembers from one call to the next."""

LIFTS = 2
ATTEMPTS_IN_A_LIFT = 3

NOT_GOOD = 0
GOOD = 1
PASSED_BY = 2


class Attempt:
    """One attempt; turns count all attempts of the contest from 1 on."""

    def __init__(self, weight, good, turn):
        self.weight = weight
        self.good = good
        self.turn = turn

    def asks_for(self):
        """The weight that this attempt asks for next."""
        # This may pass the heaviest weight that can be asked for: that end is only for what a lifter says.
        return self.weight + 1 if self.good == GOOD else self.weight


class Record:
    """What one lifter asks for and has done in one lift."""

    def __init__(self):
        # 0: nothing has been asked for yet.
        self.wanted = 0
        # How often that has been changed since the last attempt.
        self.changes = 0
        self.attempts = []

    def is_left(self):
        return len(self.attempts) < ATTEMPTS_IN_A_LIFT


def blank_records(teams):
    """A record for each lifter, who has one team each."""
    return [Record() for team in teams]


class Contest:
    """A contest; until it is renewed with teams it has no lifters."""

    def __init__(self):
        self.renew([])

    def renew(self, teams):
        """Forget all that was; there is a lifter for each team now."""
        self.teams = list(teams)
        self.has_begun = False
        # The lift that is on; behind the last one it is LIFTS, and the contest is over.
        self.lift = 0
        self.bar = 0
        # Of each attempt of the contest (lifter, lift), in the order in which they were made.
        self.history = []
        self.records = [blank_records(teams) for lift in range(LIFTS)]

    def has_lifter(self, lifter):
        return 0 <= lifter < len(self.teams)

    def is_on(self):
        return self.has_begun and self.lift < LIFTS

    def record(self, lifter):
        """The lifter's record in the lift that is on."""
        return self.records[self.lift][lifter]

    def who_tried_last(self):
        """Who made the last attempt in the lift that is on; None if nobody has."""
        # The last attempt of all may belong to the lift before: then nobody has tried in this one.
        if not self.history or self.history[-1][1] != self.lift:
            return None
        return self.history[-1][0]

    def next_lift(self):
        self.lift += 1
        self.bar = 0
