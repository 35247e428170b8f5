"""What the contest stands for, and how calls are handed in and answered."""

import unittest

from play import (
    GOOD, HIGHEST, LOWEST, NOT_GOOD, ORDER, START, UP, ask, begin, in_one_list, last, played, started, taken_apart,
    try_one,
)

from barcontest.contest import answers


def mixed(seed, many, up_to):
    """Whole numbers from 0 to up_to - 1, the same for the same seed."""
    numbers = []
    for _ in range(many):
        seed = (seed * 1103515245 + 12345) % 2147483648
        numbers.append(seed // 65536 % up_to)
    return numbers


def whole_contest(seed, lifters):
    weights = mixed(seed, 2 * lifters, 12)
    pairs = [(100 + weights[2 * lifter], 120 + weights[2 * lifter + 1]) for lifter in range(lifters)]
    return started(*pairs) + [try_one(good) for good in mixed(seed + 1, 6 * lifters, 3)]


def two_hundred_calls():
    """A contest of 24 lifters to its end, with questions between, some of them refused."""
    calls = whole_contest(7, 24)
    return [UP, ORDER, START] + calls[:40] + [UP, ORDER] * 6 + calls[40:] + [UP, ORDER, begin(21)] * 5


class WhatItStandsFor(unittest.TestCase):
    def test_of_every_attempt(self):
        for seed in range(40):
            lifters = 1 + seed % 24
            with self.subTest(seed=seed):
                self.follow(whole_contest(seed, lifters), lifters)

    def follow(self, calls, lifters):
        opening = len(calls) - 6 * lifters
        bar = 0
        had = [0] * lifters
        for tries in range(6 * lifters):
            ahead = played(calls[:opening + tries] + [ORDER, UP])
            lift = tries // (3 * lifters)
            left = dict(zip(ahead[-2][1::2], ahead[-2][2::2]))
            if tries == 3 * lifters:
                bar = 0
                had = [0] * lifters
            who, weight, now = last(calls[:opening + tries + 1])
            self.assertEqual(sorted(left), [lifter for lifter in range(lifters) if had[lifter] < 3])
            self.assertEqual(weight, min(left.values()))
            self.assertEqual(ahead[-1][:2] + ahead[-1][3:], [who, weight, had[who] + 1, lift])
            self.assertGreaterEqual(weight, bar)
            self.assertEqual(now, (tries + 1) // (3 * lifters))
            bar = weight
            had[who] += 1
        self.assertEqual(had, [3] * lifters)
        self.assertEqual(last(calls + [UP]), [-4])


class TheInterface(unittest.TestCase):
    def test_each_answer_has_its_length_ahead_of_it(self):
        calls = [4, 1, 2, 7, 7, 2, 0, 50, 60, 2, 1, 40, 70, 3, 5, 6, 1, 6, 9, 4]
        self.assertEqual(answers(calls), [
            1, -4, 1, 2, 1, 0, 1, 0, 5, 1, 40, 60, 1, 0, 5, 2, 1, 40, 0, 50, 3, 1, 40, 0, 1, -1, 5, 1, 41, 120, 2, 0,
        ])

    def test_any_call_may_come_first(self):
        self.assertEqual(answers([1, 0]), [1, -1])
        self.assertEqual(answers([1, 1, 0]), [1, 1])
        self.assertEqual(answers([2, 0, 1, 1]), [1, -1])
        self.assertEqual(answers([3]), [1, -2])
        self.assertEqual(answers([4]), [1, -4])
        self.assertEqual(answers([5]), [1, -4])
        self.assertEqual(answers([6, 0]), [1, -4])

    def test_numbers_at_the_ends_of_their_range(self):
        for end in (LOWEST, HIGHEST):
            calls = [begin(end), begin(1, end), begin(1), ask(end, 1, 1), ask(0, end, 1), ask(0, 1, end),
                     ask(0, 1, 1), try_one(end), START, try_one(end), UP]
            with self.subTest(end=end):
                self.assertEqual(played(calls), [
                    [-1], [-1], [1], [-1], [-1], [-1], [0], [-1], [0, 1, 60, 1, 0], [-1], [0, 1, 60, 1, 0],
                ])

    def test_200_calls(self):
        calls = two_hundred_calls()
        self.assertEqual(len(calls), 200)
        found = played(calls)
        self.assertEqual(len(found), 200)
        self.assertEqual(found[:3], [[-4], [-4], [-2]])
        self.assertEqual(found[-16][2], 2)
        self.assertEqual(found[-15:], [[-4], [-4], [-1]] * 5)

    def test_what_is_handed_in_stays_as_it_was(self):
        handed_in = in_one_list(two_hundred_calls())
        before = list(handed_in)
        answers(handed_in)
        self.assertEqual(handed_in, before)

    def test_nothing_is_kept_from_one_time_to_the_next(self):
        handed_in = in_one_list(two_hundred_calls())
        first = answers(handed_in)
        self.assertEqual(answers(in_one_list(started((50, 60)) + [GOOD, NOT_GOOD]))[-3:], [0, 51, 0])
        self.assertEqual(answers([4]), [1, -4])
        self.assertEqual(answers(handed_in), first)

    def test_the_answer_is_whole_numbers_and_a_new_list_each_time(self):
        handed_in = in_one_list(two_hundred_calls())
        first = answers(handed_in)
        self.assertEqual({int}, {number.__class__ for number in first})
        first.append(99)
        self.assertNotEqual(answers(handed_in), first)
        self.assertEqual(in_one_list([[len(answer)] + answer for answer in taken_apart(first[:-1])]), first[:-1])


if __name__ == "__main__":
    unittest.main()
