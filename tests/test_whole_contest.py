"""What the contest stands for, and how calls are handed in and answered."""

import unittest

from play import (
    GOOD, HIGHEST, LOWEST, NOT_GOOD, ORDER, REVERSE, START, UP, ask, begin, card, change, in_one_list, last, over,
    played, points, ranked, started, taken_apart, try_one,
)

from barcontest.contest import answers


def mixed(seed, many, up_to):
    """Whole numbers from 0 to up_to - 1, the same for the same seed."""
    numbers = []
    for _ in range(many):
        seed = (seed * 1103515245 + 12345) % 2147483648
        numbers.append(seed // 65536 % up_to)
    return numbers


def whole_contest(seed, lifters):
    weights = mixed(seed, 2 * lifters, 12)
    pairs = [(100 + weights[2 * lifter], 120 + weights[2 * lifter + 1]) for lifter in range(lifters)]
    return started(*pairs) + [try_one(good) for good in mixed(seed + 1, 6 * lifters, 3)]


def two_hundred_calls():
    """A contest of 24 lifters to its end, with all kinds of calls between, some of them refused."""
    calls = whole_contest(7, 24)
    between = [UP, ORDER, change(0, 130), change(0, 90), REVERSE, card(0, 0), ranked(0), points(0)]
    behind = [UP, ORDER, begin(21), REVERSE, card(23, 1), ranked(2), ranked(3), points(0)]
    return [UP, ORDER, START] + calls[:40] + between + calls[40:] + [change(0, 130)] * 3 + behind * 2


def one_of_all_kinds(lifters, kind, first, second):
    """A call of a contest of so many lifters, right or wrong; kind is 0 to 27, first and second are from 0 on."""
    if kind < 10:
        return try_one(first % 4)
    if kind < 17:
        return change(first % (lifters + 1), 18 + second % 16)
    if kind < 20:
        return REVERSE
    return [
        UP, ORDER, START, ask(0, 30, 30), begin(21), card(first % (lifters + 1), second % 3), ranked(first % 4),
        points(first % 22),
    ][kind - 20]


def play_of_all_kinds(seed):
    """200 calls, and how many lifters there are."""
    lifters = 1 + seed % 7
    asked = mixed(seed, 2 * lifters, 10)
    calls = started(*[(20 + asked[2 * lifter], 20 + asked[2 * lifter + 1]) for lifter in range(lifters)])
    drawn = mixed(seed + 1, 600, 28 * 1000)
    while len(calls) < 200:
        kind, first, second = drawn[:3]
        drawn = drawn[3:]
        calls.append(one_of_all_kinds(lifters, kind % 28, first, second))
    return calls, lifters


def is_question(call):
    return call[0] in (4, 5, 9, 10, 11)


class WhatItStandsFor(unittest.TestCase):
    def test_of_every_attempt(self):
        for seed in range(40):
            lifters = 1 + seed % 24
            with self.subTest(seed=seed):
                self.follow(whole_contest(seed, lifters), lifters)

    def follow(self, calls, lifters):
        opening = len(calls) - 6 * lifters
        bar = 0
        had = [0] * lifters
        for tries in range(6 * lifters):
            ahead = played(calls[:opening + tries] + [ORDER, UP])
            lift = tries // (3 * lifters)
            left = dict(zip(ahead[-2][1::2], ahead[-2][2::2]))
            if tries == 3 * lifters:
                bar = 0
                had = [0] * lifters
            who, weight, now = last(calls[:opening + tries + 1])
            self.assertEqual(sorted(left), [lifter for lifter in range(lifters) if had[lifter] < 3])
            self.assertEqual(weight, min(left.values()))
            self.assertEqual(ahead[-1][:2] + ahead[-1][3:], [who, weight, had[who] + 1, lift])
            self.assertGreaterEqual(weight, bar)
            self.assertEqual(now, (tries + 1) // (3 * lifters))
            bar = weight
            had[who] += 1
        self.assertEqual(had, [3] * lifters)
        self.assertEqual(last(calls + [UP]), [-4])


class WithCallsOfAllKinds(unittest.TestCase):
    def each_play(self):
        for seed in range(60):
            calls, lifters = play_of_all_kinds(seed)
            yield seed, calls, lifters, played(calls)

    def test_they_bring_each_refusal_and_each_end(self):
        told = {}
        lifts = {}
        for seed, calls, lifters, answers in self.each_play():
            for call, answer in zip(calls, answers):
                if answer[0] < 0:
                    told[call[0], answer[0]] = True
                elif call[0] == 6:
                    lifts[answer[2]] = True
        self.assertEqual(sorted(lifts), [0, 1, 2])
        self.assertEqual(sorted(told), [
            (1, -1), (2, -3), (3, -3), (4, -4), (5, -4), (6, -4), (6, -1), (7, -7), (7, -6), (7, -5), (7, -4), (7, -1),
            (8, -5), (8, -4), (9, -1), (10, -1), (11, -1),
        ])

    def test_the_bar_never_gets_lighter_within_a_lift(self):
        for seed, calls, lifters, answers in self.each_play():
            bars = [[], [], []]
            lift = 0
            for call, answer in zip(calls, answers):
                if call[0] == 6 and answer[0] >= 0:
                    bars[lift].append(answer[1])
                    lift = answer[2]
            with self.subTest(seed=seed):
                for weights in bars:
                    self.assertEqual(weights, sorted(weights))
                self.assertEqual([len(weights) for weights in bars][:lift], [3 * lifters] * lift)

    def test_whoever_is_called_has_the_least_weight_of_all_who_are_left(self):
        for seed in range(20):
            calls, lifters = play_of_all_kinds(seed)
            for behind in range(2 + lifters, 200, 7):
                order, is_up, tried = played(calls[:behind] + [ORDER, UP, NOT_GOOD])[-3:]
                cards = [played(calls[:behind] + [card(lifter, lift) for lift in (0, 1)])[-2:]
                         for lifter in range(lifters)]
                with self.subTest(seed=seed, behind=behind):
                    if order == [-4]:
                        self.assertEqual([is_up, tried], [[-4], [-4]])
                        continue
                    lift = is_up[4]
                    left = {lifter: cards[lifter][lift][1] for lifter in range(lifters) if cards[lifter][lift][0] < 3}
                    self.assertEqual(dict(zip(order[1::2], order[2::2])), left)
                    self.assertEqual(order[2::2], sorted(left.values()))
                    self.assertEqual(tried[:2], is_up[:2])
                    self.assertEqual(is_up[:2], order[1:3])

    def test_a_refusal_changes_nothing(self):
        for seed, calls, lifters, answers in self.each_play():
            with self.subTest(seed=seed):
                kept = [(call, answer) for call, answer in zip(calls, answers) if answer[0] >= 0]
                self.assertEqual(played([call for call, answer in kept]), [answer for call, answer in kept])

    def test_a_question_changes_nothing(self):
        for seed, calls, lifters, answers in self.each_play():
            with self.subTest(seed=seed):
                kept = [(call, answer) for call, answer in zip(calls, answers) if not is_question(call)]
                self.assertEqual(played([call for call, answer in kept]), [answer for call, answer in kept])

    def test_a_second_begin_forgets_all_that_was(self):
        for seed in range(20):
            calls, lifters = play_of_all_kinds(seed)
            anew, others = play_of_all_kinds(seed + 1)
            with self.subTest(seed=seed):
                self.assertEqual(played(calls[:100] + anew[:100])[100:], played(anew[:100]))

    def test_all_three_orders_together_are_worth_what_the_teams_get(self):
        for seed in range(20):
            calls, lifters = play_of_all_kinds(seed)
            asked = [ranked(order) for order in range(3)] + [points(team) for team in range(21)]
            answers = played(calls[:175] + asked)[175:]
            worths = [28, 25, 23, 22, 21, 20, 19]
            with self.subTest(seed=seed):
                self.assertEqual(sum(answer[0] for answer in answers[3:]),
                                 sum(sum(worths[:answer[0]]) for answer in answers[:3]))


class TheInterface(unittest.TestCase):
    def test_each_answer_has_its_length_ahead_of_it(self):
        calls = [4, 1, 2, 7, 7, 2, 0, 50, 60, 2, 1, 40, 70, 3, 5, 6, 1, 6, 9, 4]
        self.assertEqual(answers(calls), [
            1, -4, 1, 2, 1, 0, 1, 0, 5, 1, 40, 60, 1, 0, 5, 2, 1, 40, 0, 50, 3, 1, 40, 0, 1, -1, 5, 1, 41, 120, 2, 0,
        ])

    def test_any_call_may_come_first(self):
        self.assertEqual(answers([1, 0]), [1, -1])
        self.assertEqual(answers([1, 1, 0]), [1, 1])
        self.assertEqual(answers([2, 0, 1, 1]), [1, -1])
        self.assertEqual(answers([3]), [1, -2])
        self.assertEqual(answers([4]), [1, -4])
        self.assertEqual(answers([5]), [1, -4])
        self.assertEqual(answers([6, 0]), [1, -4])
        self.assertEqual(answers([7, 0, 50]), [1, -1])
        self.assertEqual(answers([8]), [1, -4])
        self.assertEqual(answers([9, 0, 0]), [1, -1])
        self.assertEqual(answers([10, 0]), [1, 0])
        self.assertEqual(answers([11, 0]), [1, 0])

    def test_each_answer_of_the_later_calls_has_its_length_ahead_of_it(self):
        calls = [
            1, 2, 7, 8, 2, 0, 50, 60, 2, 1, 40, 70, 3, 7, 1, 45, 6, 1, 8, 9, 1, 0, 10, 0, 8, 10, 0, 11, 8, 7, 0, 0, 8,
        ]
        self.assertEqual(answers(calls), [
            1, 2, 1, 0, 1, 0, 5, 1, 40, 60, 1, 0, 3, 1, 1, 45, 3, 1, 45, 0, 2, 1, 0, 5, 1, 45, 0, 45, 0, 1, 0, 2, 1, 1,
            3, 1, 1, 45, 1, 28, 1, -1, 2, 1, 0,
        ])

    def test_numbers_at_the_ends_of_their_range(self):
        for end in (LOWEST, HIGHEST):
            calls = [begin(end), begin(1, end), begin(1), ask(end, 1, 1), ask(0, end, 1), ask(0, 1, end),
                     ask(0, 1, 1), try_one(end), START, try_one(end), change(end, 1), change(0, end), change(end, end),
                     card(end, 0), card(0, end), card(end, end), ranked(end), points(end), UP]
            with self.subTest(end=end):
                self.assertEqual(played(calls), [
                    [-1], [-1], [1], [-1], [-1], [-1], [0], [-1], [0, 1, 60, 1, 0], [-1], [-1], [-1], [-1],
                    [-1], [-1], [-1], [-1], [-1], [0, 1, 60, 1, 0],
                ])
                self.assertEqual(played(over((50, 60)) + calls[7:])[9:], [
                    [-1], [-3]] + [[-1]] * 9 + [[-4]])

    def test_200_calls(self):
        calls = two_hundred_calls()
        self.assertEqual(len(calls), 200)
        self.assertEqual({call[0] for call in calls}, set(range(1, 12)))
        found = played(calls)
        self.assertEqual(len(found), 200)
        self.assertEqual(found[:3], [[-4], [-4], [-2]])
        self.assertEqual(found[-20][2], 2)
        self.assertEqual(found[-19:-16], [[-4]] * 3)
        self.assertEqual(found[-16:-12], [[-4], [-4], [-1], [-5]])
        self.assertEqual(found[-10], [-1])
        self.assertEqual(found[-16:-8], found[-8:])

    def test_what_is_handed_in_stays_as_it_was(self):
        handed_in = in_one_list(two_hundred_calls())
        before = list(handed_in)
        answers(handed_in)
        self.assertEqual(handed_in, before)

    def test_nothing_is_kept_from_one_time_to_the_next(self):
        handed_in = in_one_list(two_hundred_calls())
        first = answers(handed_in)
        self.assertEqual(answers(in_one_list(started((50, 60)) + [GOOD, NOT_GOOD]))[-3:], [0, 51, 0])
        self.assertEqual(answers([4]), [1, -4])
        self.assertEqual(answers(handed_in), first)

    def test_the_answer_is_whole_numbers_and_a_new_list_each_time(self):
        handed_in = in_one_list(two_hundred_calls())
        first = answers(handed_in)
        self.assertEqual({int}, {number.__class__ for number in first})
        first.append(99)
        self.assertNotEqual(answers(handed_in), first)
        self.assertEqual(in_one_list([[len(answer)] + answer for answer in taken_apart(first[:-1])]), first[:-1])


if __name__ == "__main__":
    unittest.main()
