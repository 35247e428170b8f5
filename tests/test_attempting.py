"""Promise 2: try_one."""

import unittest

from play import (
    GOOD, HIGHEST, LOWEST, NOT_GOOD, ORDER, PASSED_BY, START, UP, ask, begin, last, over, played, started, try_one,
)

from barcontest.attempting import try_one as try_in
from barcontest.preparing import ask as ask_in, begin as begin_in, start as start_in
from barcontest.state import Contest


class Refusals(unittest.TestCase):
    def test_good_is_0_to_2(self):
        for good, answer in ((0, [0, 50, 0]), (1, [0, 50, 0]), (2, [0, 50, 0])):
            self.assertEqual(last(started((50, 60)) + [try_one(good)]), answer)
        for good in (-1, 3, LOWEST, HIGHEST):
            with self.subTest(good=good):
                self.assertEqual(last(started((50, 60)) + [try_one(good)]), [-1])

    def test_it_has_not_begun_or_is_over(self):
        for good in (0, 1, 2):
            with self.subTest(good=good):
                self.assertEqual(last([try_one(good)]), [-4])
                self.assertEqual(last([begin(1), try_one(good)]), [-4])
                self.assertEqual(last([begin(1), ask(0, 50, 60), try_one(good)]), [-4])
                self.assertEqual(last(over((50, 60)) + [try_one(good)]), [-4])

    def test_a_wrong_number_is_told_ahead_of_that(self):
        for good in (-1, 3, LOWEST, HIGHEST):
            with self.subTest(good=good):
                self.assertEqual(last([try_one(good)]), [-1])
                self.assertEqual(last([begin(1), try_one(good)]), [-1])
                self.assertEqual(last(over((50, 60)) + [try_one(good)]), [-1])

    def test_a_refused_one_changes_nothing(self):
        calls = started((50, 60), (50, 60)) + [try_one(3), try_one(-1), UP]
        self.assertEqual(last(calls), [0, 50, 60, 1, 0])
        calls = [begin(1), ask(0, 50, 60), GOOD, START]
        self.assertEqual(last(calls), [0, 50, 60, 1, 0])


class WhatIsAskedForNext(unittest.TestCase):
    def test_one_more_if_it_was_good_else_as_much(self):
        for tried, weight in ((GOOD, 51), (NOT_GOOD, 50), (PASSED_BY, 50)):
            with self.subTest(tried=tried):
                self.assertEqual(played(started((50, 60)) + [tried, ORDER])[-2:], [[0, 50, 0], [1, 0, weight]])

    def test_each_attempt_follows_the_one_before(self):
        calls = started((50, 60)) + [GOOD, PASSED_BY, NOT_GOOD, NOT_GOOD, GOOD, GOOD]
        self.assertEqual(played(calls)[3:], [[0, 50, 0], [0, 51, 0], [0, 51, 1], [0, 60, 1], [0, 60, 1], [0, 61, 2]])

    def test_it_may_pass_the_heaviest_that_can_be_asked_for(self):
        calls = started((500, 500)) + [GOOD, GOOD, UP, GOOD, UP]
        self.assertEqual(played(calls)[3:], [
            [0, 500, 0], [0, 501, 0], [0, 502, 120, 3, 0], [0, 502, 1], [0, 500, 60, 1, 1],
        ])

    def test_only_of_who_tried_and_in_that_lift(self):
        calls = started((50, 60), (55, 61)) + [GOOD]
        self.assertEqual(last(calls + [ORDER]), [2, 0, 51, 1, 55])
        self.assertEqual(last(calls + [GOOD] * 5 + [ORDER]), [2, 0, 60, 1, 61])


class TheLifts(unittest.TestCase):
    def test_tells_who_tried_not_who_is_up_then(self):
        self.assertEqual(played(started((51, 60), (50, 60)) + [GOOD, UP])[-2:], [[1, 50, 0], [0, 51, 60, 1, 0]])

    def test_the_other_lift_is_on_when_nobody_is_left(self):
        for tried in (GOOD, NOT_GOOD, PASSED_BY):
            with self.subTest(tried=tried):
                answers = played(started((50, 60), (80, 40)) + [tried] * 6 + [UP])
                self.assertEqual([answer[2] for answer in answers[4:10]], [0, 0, 0, 0, 0, 1])
                self.assertEqual(answers[-1], [1, 40, 60, 1, 1])

    def test_it_is_over_behind_the_other_lift(self):
        for tried in (GOOD, NOT_GOOD, PASSED_BY):
            with self.subTest(tried=tried):
                answers = played(started((50, 60)) + [tried] * 6)
                self.assertEqual([answer[2] for answer in answers[3:]], [0, 0, 1, 1, 1, 2])

    def test_what_each_call_answers_when_it_is_over(self):
        calls = [UP, ORDER, GOOD, NOT_GOOD, PASSED_BY, try_one(3), START, ask(0, 50, 60), ask(1, 50, 60), UP]
        answers = played(over((50, 60)) + calls)[-len(calls):]
        self.assertEqual(answers, [[-4], [-4], [-4], [-4], [-4], [-1], [-3], [-3], [-1], [-4]])
        self.assertEqual(last(over((50, 60)) + [begin(1, 2, 3)]), [3])


class TheBar(unittest.TestCase):
    def test_weighs_as_much_as_the_last_attempt_of_the_lift(self):
        contest = Contest()
        begin_in(contest, [1, 1])
        ask_in(contest, 0, 50, 30)
        ask_in(contest, 1, 52, 31)
        start_in(contest)
        self.assertEqual(contest.bar, 0)
        bars = []
        for good in (1, 0, 2, 1, 1, 1, 0):
            try_in(contest, good)
            bars.append(contest.bar)
        self.assertEqual(bars, [50, 51, 51, 52, 53, 0, 30])


if __name__ == "__main__":
    unittest.main()
