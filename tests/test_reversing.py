"""Promise 4: reverse."""

import unittest

from play import (
    GOOD, NOT_GOOD, ORDER, PASSED_BY, REVERSE, START, UP, ask, begin, card, change, last, over, played, points, ranked,
    started,
)


class Refusals(unittest.TestCase):
    def test_there_was_no_attempt(self):
        self.assertEqual(last([REVERSE]), [-4])
        self.assertEqual(last([begin(21), REVERSE]), [-4])
        self.assertEqual(last([begin(1), REVERSE]), [-4])
        self.assertEqual(last([begin(1), ask(0, 50, 60), REVERSE]), [-4])
        self.assertEqual(last(started((50, 60)) + [REVERSE]), [-4])
        self.assertEqual(last(started((50, 60)) + [change(0, 70), REVERSE]), [-4])

    def test_a_refused_try_is_no_attempt(self):
        self.assertEqual(last(started((50, 60)) + [[6, 3], REVERSE]), [-4])

    def test_a_second_begin_forgets_the_attempts(self):
        calls = started((50, 60)) + [GOOD, begin(0)]
        self.assertEqual(last(calls + [REVERSE]), [-4])
        self.assertEqual(last(calls + [ask(0, 50, 60), START, REVERSE]), [-4])
        self.assertEqual(last(over((50, 60)) + [begin(0), REVERSE]), [-4])

    def test_a_refused_begin_does_not(self):
        self.assertEqual(last(started((50, 60)) + [GOOD, begin(21), REVERSE]), [0, 0])

    def test_it_was_passed_by(self):
        self.assertEqual(last(started((50, 60)) + [PASSED_BY, REVERSE]), [-5])
        self.assertEqual(last(started((50, 60)) + [PASSED_BY] * 3 + [REVERSE]), [-5])
        self.assertEqual(last(started((50, 60)) + [PASSED_BY] * 6 + [REVERSE]), [-5])

    def test_the_last_attempt_of_all_counts(self):
        calls = started((50, 60), (51, 60))
        self.assertEqual(last(calls + [GOOD, PASSED_BY, REVERSE]), [-5])
        self.assertEqual(last(calls + [NOT_GOOD, PASSED_BY, REVERSE]), [-5])
        self.assertEqual(last(calls + [PASSED_BY, GOOD, REVERSE]), [0, 0])
        self.assertEqual(last(started((50, 60), (50, 60)) + [PASSED_BY, NOT_GOOD, REVERSE]), [1, 1])

    def test_a_refused_one_changes_nothing(self):
        calls = started((50, 60), (90, 60)) + [GOOD, PASSED_BY, change(0, 55), REVERSE, REVERSE, card(0, 0), UP, ORDER]
        self.assertEqual(played(calls)[-5:], [
            [-5], [-5], [2, 55, 1, 50, 1, 51, 2], [0, 55, 120, 3, 0], [2, 0, 55, 1, 90],
        ])


class WhatIsAskedFor(unittest.TestCase):
    def assert_asks(self, calls, weight, good):
        """Behind the calls the last attempt of lifter 0 is turned round to good, and they ask for the weight."""
        answers = played(started((100, 100)) + calls + [card(0, 0), REVERSE, card(0, 0), UP])
        had, before, changes = answers[-4][:3]
        self.assertEqual(answers[-3], [0, good])
        self.assertEqual(answers[-2][:3], [had, weight, changes])
        self.assertEqual(answers[-2][3:], answers[-4][3:-1] + [good])
        self.assertEqual(answers[-1][:2], [0, weight])

    def test_with_no_change_since(self):
        self.assert_asks([GOOD], 100, good=0)
        self.assert_asks([NOT_GOOD], 101, good=1)

    def test_a_change_ahead_of_the_attempt_is_none_since(self):
        self.assert_asks([change(0, 110), GOOD], 110, good=0)
        self.assert_asks([change(0, 110), NOT_GOOD], 111, good=1)
        self.assert_asks([change(0, 90), change(0, 80), GOOD], 80, good=0)

    def test_a_refused_change_is_none_since(self):
        self.assert_asks([GOOD, change(0, 100), change(0, 501)], 100, good=0)
        self.assert_asks([NOT_GOOD, change(0, 99)], 101, good=1)

    def test_good_now_with_a_change_since(self):
        self.assert_asks([NOT_GOOD, change(0, 100)], 101, good=1)
        self.assert_asks([NOT_GOOD, change(0, 101)], 101, good=1)
        self.assert_asks([NOT_GOOD, change(0, 102)], 102, good=1)
        self.assert_asks([NOT_GOOD, change(0, 500)], 500, good=1)

    def test_not_good_now_with_a_change_since(self):
        self.assert_asks([GOOD, change(0, 101)], 101, good=0)
        self.assert_asks([GOOD, change(0, 102)], 102, good=0)
        self.assert_asks([GOOD, change(0, 500)], 500, good=0)

    def test_the_last_of_two_changes_tells(self):
        self.assert_asks([NOT_GOOD, change(0, 120), change(0, 100)], 101, good=1)
        self.assert_asks([NOT_GOOD, change(0, 120), change(0, 105)], 105, good=1)
        self.assert_asks([GOOD, change(0, 120), change(0, 101)], 101, good=0)

    def test_twice_in_a_row(self):
        self.assert_asks([GOOD, REVERSE], 101, good=1)
        self.assert_asks([NOT_GOOD, REVERSE], 100, good=0)
        self.assert_asks([NOT_GOOD, REVERSE, REVERSE], 101, good=1)

    def test_twice_behind_a_change(self):
        calls = [begin(0), ask(0, 100, 100), START, NOT_GOOD, change(0, 100), REVERSE, REVERSE, card(0, 0)]
        self.assertEqual(played(calls)[-4:], [[1, 0, 100], [0, 1], [0, 0], [1, 101, 1, 100, 0]])

    def test_a_change_between_two_reversals(self):
        self.assert_asks([NOT_GOOD, REVERSE, change(0, 101)], 101, good=0)
        self.assert_asks([GOOD, REVERSE, change(0, 100)], 101, good=1)
        self.assert_asks([GOOD, REVERSE, change(0, 107)], 107, good=1)

    def test_of_a_later_attempt(self):
        self.assert_asks([GOOD, GOOD], 101, good=0)
        self.assert_asks([PASSED_BY, NOT_GOOD], 101, good=1)
        self.assert_asks([NOT_GOOD, change(0, 120), GOOD], 120, good=0)

    def test_behind_the_heaviest_weight(self):
        self.assertEqual(played(started((500, 60)) + [GOOD, REVERSE, UP])[-1], [0, 500, 120, 2, 0])
        self.assertEqual(played(started((500, 60)) + [NOT_GOOD, REVERSE, UP])[-1], [0, 501, 120, 2, 0])

    def test_the_next_attempt_is_made_with_it(self):
        self.assertEqual(last(started((100, 60)) + [NOT_GOOD, REVERSE, GOOD]), [0, 101, 0])
        self.assertEqual(last(started((100, 60)) + [GOOD, REVERSE, GOOD]), [0, 100, 0])


class TheEndOfALift(unittest.TestCase):
    def test_of_the_third_attempt(self):
        calls = started((50, 60), (90, 60)) + [NOT_GOOD, NOT_GOOD]
        answers = played(calls + [GOOD, REVERSE, card(0, 0), UP])
        self.assertEqual(answers[-3:], [[0, 0], [3, 50, 0, 50, 0, 50, 0, 50, 0], [1, 90, 60, 1, 0]])
        answers = played(calls + [NOT_GOOD, REVERSE, card(0, 0), UP])
        self.assertEqual(answers[-3:], [[0, 1], [3, 51, 0, 50, 0, 50, 0, 50, 1], [1, 90, 60, 1, 0]])

    def test_of_the_last_one_of_lift_0_while_lift_1_is_on(self):
        calls = started((50, 60)) + [GOOD, GOOD, NOT_GOOD, REVERSE]
        self.assertEqual(last(calls), [0, 1])
        self.assertEqual(played(calls + [card(0, 0), card(0, 1), UP])[-3:], [
            [3, 53, 0, 50, 1, 51, 1, 52, 1], [0, 60, 0], [0, 60, 60, 1, 1],
        ])
        self.assertEqual(played(calls + [REVERSE, card(0, 0), UP])[-3:], [
            [0, 0], [3, 52, 0, 50, 1, 51, 1, 52, 0], [0, 60, 60, 1, 1],
        ])

    def test_a_change_in_lift_1_is_none_since_in_lift_0(self):
        calls = started((50, 60)) + [GOOD, GOOD, NOT_GOOD, change(0, 70), REVERSE, card(0, 0), card(0, 1)]
        self.assertEqual(played(calls)[-3:], [[0, 1], [3, 53, 0, 50, 1, 51, 1, 52, 1], [0, 70, 1]])

    def test_the_bar_of_lift_1_still_weighs_nothing(self):
        calls = started((50, 60)) + [GOOD, GOOD, NOT_GOOD, REVERSE, change(0, 1)]
        self.assertEqual(last(calls), [1, 0, 1])

    def test_of_the_first_one_of_lift_1(self):
        calls = started((50, 60)) + [GOOD] * 4 + [REVERSE]
        self.assertEqual(last(calls), [0, 0])
        self.assertEqual(played(calls + [card(0, 0), card(0, 1)])[-2:], [
            [3, 53, 0, 50, 1, 51, 1, 52, 1], [1, 60, 0, 60, 0],
        ])

    def test_when_it_is_over(self):
        calls = over((50, 60)) + [REVERSE]
        self.assertEqual(last(calls), [0, 0])
        self.assertEqual(played(calls + [card(0, 1), UP])[-2:], [[3, 62, 0, 60, 1, 61, 1, 62, 0], [-4]])
        self.assertEqual(played(calls + [REVERSE, card(0, 1)])[-2:], [[0, 1], [3, 63, 0, 60, 1, 61, 1, 62, 1]])


class WhatStays(unittest.TestCase):
    def test_whose_it_was_though_another_is_up(self):
        calls = started((50, 60), (60, 60), (55, 60)) + [GOOD, change(0, 99), GOOD]
        self.assertEqual(played(calls + [UP, REVERSE, REVERSE])[-3:], [[2, 56, 120, 2, 0], [2, 0], [2, 1]])
        self.assertEqual(last(calls + [change(2, 100), UP, REVERSE]), [2, 0])

    def test_the_counts_of_changes(self):
        calls = started((50, 60), (90, 60)) + [change(1, 91), GOOD, change(0, 55), REVERSE]
        self.assertEqual(played(calls + [card(0, 0), card(1, 0)])[-2:], [[1, 55, 1, 50, 0], [0, 91, 1]])
        self.assertEqual(played(calls + [change(0, 50), change(0, 60)])[-2:], [[2, 0, 50], [-6]])
        calls = started((50, 60)) + [GOOD, REVERSE, change(0, 60), change(0, 61), REVERSE, change(0, 62)]
        self.assertEqual(last(calls), [-6])

    def test_the_order_of_the_attempts(self):
        # Both have had one and ask for 51: 0 tried earlier, also when the attempt of 1 is turned round twice.
        calls = started((50, 60), (50, 60)) + [GOOD, GOOD]
        self.assertEqual(last(calls + [ORDER]), [2, 0, 51, 1, 51])
        self.assertEqual(played(calls + [REVERSE, ORDER, REVERSE, ORDER])[-3:], [
            [2, 1, 50, 0, 51], [1, 1], [2, 0, 51, 1, 51],
        ])

    def test_the_bar(self):
        calls = started((50, 60), (90, 60)) + [GOOD, REVERSE]
        self.assertEqual(played(calls + [change(1, 49), change(1, 50)])[-2:], [[-7], [1, 1, 50]])
        calls = started((50, 60), (90, 60)) + [NOT_GOOD, REVERSE]
        self.assertEqual(played(calls + [change(1, 49), change(1, 50)])[-2:], [[-7], [1, 1, 50]])

    def test_the_seconds(self):
        self.assertEqual(last(started((50, 60), (90, 60)) + [GOOD, REVERSE, UP]), [0, 50, 120, 2, 0])

    def test_what_the_others_ask_for(self):
        calls = started((50, 60), (90, 61), (80, 62)) + [GOOD, REVERSE]
        self.assertEqual(last(calls + [ORDER]), [3, 0, 50, 2, 80, 1, 90])
        self.assertEqual([last(calls + [card(lifter, 1)]) for lifter in range(3)], [[0, 60, 0], [0, 61, 0], [0, 62, 0]])

    def test_the_attempts_ahead_of_it(self):
        calls = started((50, 60)) + [GOOD, NOT_GOOD, GOOD, REVERSE, card(0, 0)]
        self.assertEqual(last(calls), [3, 51, 0, 50, 1, 51, 0, 51, 0])


class TheOrdersBehindIt(unittest.TestCase):
    def test_one_comes_in_and_goes_out(self):
        calls = started((50, 60)) + [NOT_GOOD, ranked(0), points(0), REVERSE, ranked(0), points(0), REVERSE, ranked(0)]
        self.assertEqual(played(calls)[-7:], [[0], [0], [0, 1], [1, 0, 50], [28], [0, 0], [0]])

    def test_the_places_change(self):
        calls = [begin(1, 2), ask(0, 50, 60), ask(1, 52, 60), START, GOOD, NOT_GOOD, NOT_GOOD, GOOD]
        self.assertEqual(played(calls + [ranked(0), points(1), points(2)])[-3:], [[2, 1, 52, 0, 50], [25], [28]])
        self.assertEqual(played(calls + [REVERSE, ranked(0), points(1), points(2)])[-3:], [[1, 0, 50], [28], [0]])

    def test_an_earlier_good_one_counts_again(self):
        calls = started((50, 60)) + [GOOD, GOOD]
        self.assertEqual(played(calls + [ranked(0), REVERSE, ranked(0)])[-3:], [[1, 0, 51], [0, 0], [1, 0, 50]])

    def test_both_together_when_it_is_over(self):
        calls = over((50, 60)) + [ranked(2), REVERSE, ranked(2), ranked(1), ranked(0)]
        self.assertEqual(played(calls)[-5:], [[1, 0, 114], [0, 0], [1, 0, 113], [1, 0, 61], [1, 0, 52]])

    def test_of_as_much_the_attempt_keeps_its_turn(self):
        # 0 makes 50 ahead of 1; that of 1 is turned round twice and stays the later one.
        calls = started((50, 60), (50, 60)) + [GOOD, GOOD, REVERSE, REVERSE, ranked(0)]
        self.assertEqual(last(calls), [2, 0, 50, 1, 50])


if __name__ == "__main__":
    unittest.main()
