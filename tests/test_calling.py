"""Promise 2: up and order."""

import unittest

from play import GOOD, NOT_GOOD, ORDER, PASSED_BY, UP, ask, begin, last, over, played, started


class WhenThereIsNoLift(unittest.TestCase):
    def test_ahead_of_any_begin(self):
        self.assertEqual(played([UP, ORDER]), [[-4], [-4]])

    def test_ahead_of_the_start(self):
        calls = [begin(1), UP, ORDER, ask(0, 50, 60), UP, ORDER]
        self.assertEqual(played(calls), [[1], [-4], [-4], [0], [-4], [-4]])

    def test_when_it_is_over(self):
        self.assertEqual(played(over((50, 60), (51, 61)) + [UP, ORDER])[-2:], [[-4], [-4]])


class TheOrderOfCalling(unittest.TestCase):
    def assert_order(self, calls, *expected):
        """All who are left, and who is up, are as expected: (lifter, weight) each."""
        flat = [number for pair in expected for number in pair]
        answers = played(calls + [ORDER, UP])
        self.assertEqual(answers[-2], [len(expected)] + flat)
        self.assertEqual(answers[-1][:2], list(expected[0]))

    def test_first_the_lesser_weight(self):
        self.assert_order(started((52, 60), (50, 60), (51, 60)), (1, 50), (2, 51), (0, 52))

    def test_the_lesser_weight_goes_ahead_of_fewer_attempts(self):
        self.assert_order(started((55, 60), (50, 60)) + [NOT_GOOD, NOT_GOOD], (1, 50), (0, 55))

    def test_the_lesser_weight_goes_ahead_of_an_earlier_last_attempt(self):
        self.assert_order(started((50, 60), (50, 60)) + [GOOD, NOT_GOOD], (1, 50), (0, 51))

    def test_then_fewer_attempts(self):
        calls = started((50, 60), (51, 60))
        self.assert_order(calls + [GOOD], (1, 51), (0, 51))
        # 0 has had two attempts, both earlier than the one of 1.
        self.assert_order(calls + [NOT_GOOD, GOOD, NOT_GOOD], (1, 51), (0, 51))

    def test_then_whose_last_attempt_was_earlier(self):
        self.assert_order(started((51, 60), (50, 60)) + [GOOD, NOT_GOOD], (1, 51), (0, 51))
        self.assert_order(started((50, 60), (51, 60)) + [GOOD, NOT_GOOD], (0, 51), (1, 51))
        self.assert_order(
            started((51, 60), (51, 60), (50, 60)) + [GOOD, NOT_GOOD, PASSED_BY], (2, 51), (0, 51), (1, 51))

    def test_the_last_attempt_tells_not_the_first(self):
        # 0 tries ahead of 1 the first time, 1 ahead of 0 the second time.
        calls = started((50, 60), (50, 60)) + [GOOD, NOT_GOOD, GOOD, NOT_GOOD]
        self.assert_order(calls, (1, 51), (0, 51))

    def test_then_the_lesser_lot(self):
        self.assert_order(started((50, 60), (50, 60), (50, 60)), (0, 50), (1, 50), (2, 50))

    def test_earlier_attempts_of_the_other_lift_do_not_tell(self):
        calls = started((52, 60), (51, 60), (50, 60)) + [PASSED_BY] * 9
        self.assert_order(calls, (0, 60), (1, 60), (2, 60))

    def test_who_has_had_three_attempts_is_left_no_more(self):
        calls = started((50, 60), (90, 60)) + [NOT_GOOD, NOT_GOOD]
        self.assert_order(calls, (0, 50), (1, 90))
        self.assert_order(calls + [NOT_GOOD], (1, 90))
        self.assert_order(calls + [NOT_GOOD] * 3, (1, 90))
        self.assert_order(calls + [NOT_GOOD] * 4, (0, 60), (1, 60))

    def test_asking_does_not_move_anything(self):
        calls = started((50, 60), (51, 60)) + [GOOD]
        self.assertEqual(played(calls + [UP, ORDER, UP, ORDER])[-4:], [[1, 51, 60, 1, 0], [2, 1, 51, 0, 51]] * 2)


class WhatUpTells(unittest.TestCase):
    def test_the_first_attempt_has_60_seconds(self):
        self.assertEqual(last(started((50, 60)) + [UP]), [0, 50, 60, 1, 0])

    def test_the_attempts_one_behind_another_have_120_seconds(self):
        for tried in (GOOD, NOT_GOOD, PASSED_BY):
            weight = 51 if tried == GOOD else 50
            with self.subTest(tried=tried):
                self.assertEqual(last(started((50, 60), (90, 99)) + [tried, UP]), [0, weight, 120, 2, 0])

    def test_behind_another_lifter_they_have_60_seconds(self):
        calls = started((50, 60), (51, 60))
        self.assertEqual(last(calls + [GOOD, UP]), [1, 51, 60, 1, 0])
        self.assertEqual(last(calls + [GOOD, GOOD, UP]), [0, 51, 60, 2, 0])
        self.assertEqual(last(calls + [GOOD, GOOD, NOT_GOOD, UP]), [0, 51, 120, 3, 0])

    def test_the_number_of_the_attempt_and_the_lift(self):
        calls = started((50, 60))
        found = [last(calls + [GOOD] * tries + [UP]) for tries in range(6)]
        self.assertEqual(found, [
            [0, 50, 60, 1, 0], [0, 51, 120, 2, 0], [0, 52, 120, 3, 0],
            [0, 60, 60, 1, 1], [0, 61, 120, 2, 1], [0, 62, 120, 3, 1],
        ])

    def test_the_seconds_begin_anew_in_the_other_lift(self):
        # 1 makes the last attempt of lift 0, and is the first in lift 1.
        calls = started((50, 70), (90, 60)) + [GOOD] * 6
        self.assertEqual(last(calls + [UP]), [1, 60, 60, 1, 1])
        self.assertEqual(last(calls + [NOT_GOOD, UP]), [1, 60, 120, 2, 1])

    def test_start_tells_the_same_as_up(self):
        answers = played(started((52, 60), (51, 61), (51, 62)) + [UP])
        self.assertEqual(answers[-2], answers[-1])
        self.assertEqual(answers[-1], [1, 51, 60, 1, 0])


if __name__ == "__main__":
    unittest.main()
