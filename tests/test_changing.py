"""Promise 3: change."""

import unittest

from play import (
    GOOD, HIGHEST, LOWEST, NOT_GOOD, ORDER, PASSED_BY, REVERSE, START, UP, ask, begin, card, change, last, over, played,
    started,
)


class Refusals(unittest.TestCase):
    def test_the_ends_of_the_lifters(self):
        calls = started((50, 60), (50, 60))
        for lifter in (-1, 2, LOWEST, HIGHEST):
            with self.subTest(lifter=lifter):
                self.assertEqual(last(calls + [change(lifter, 70)]), [-1])
        self.assertEqual(last(calls + [change(0, 70)]), [1, 1, 50])
        self.assertEqual(last(calls + [change(1, 70)]), [1, 0, 50])

    def test_the_last_of_24_lifters(self):
        calls = started(*[(50, 60)] * 24)
        self.assertEqual(last(calls + [change(23, 40)]), [1, 23, 40])
        self.assertEqual(last(calls + [change(24, 40)]), [-1])

    def test_the_ends_of_the_weights(self):
        calls = started((50, 60))
        for weight in (0, 501, -1, LOWEST, HIGHEST):
            with self.subTest(weight=weight):
                self.assertEqual(last(calls + [change(0, weight)]), [-1])
        self.assertEqual(last(calls + [change(0, 1)]), [1, 0, 1])
        self.assertEqual(last(calls + [change(0, 500)]), [1, 0, 500])

    def test_behind_500_nothing_more_can_be_asked_for_by_a_change(self):
        calls = started((500, 60)) + [GOOD]
        self.assertEqual(last(calls + [change(0, 501)]), [-1])
        self.assertEqual(last(calls + [change(0, 500)]), [-7])

    def test_ahead_of_any_begin_there_is_no_lifter(self):
        self.assertEqual(last([change(0, 70)]), [-1])
        self.assertEqual(last([begin(21), change(0, 70)]), [-1])

    def test_it_has_not_begun_or_is_over(self):
        self.assertEqual(last([begin(1), change(0, 70)]), [-4])
        self.assertEqual(last([begin(1), ask(0, 50, 60), change(0, 70)]), [-4])
        self.assertEqual(last(over((50, 60)) + [change(0, 70)]), [-4])
        self.assertEqual(last(started((50, 60), (51, 61)) + [PASSED_BY] * 12 + [change(1, 70)]), [-4])

    def test_a_wrong_number_is_told_ahead_of_that(self):
        for wrong in (change(-1, 70), change(1, 70), change(0, 0), change(0, 501)):
            with self.subTest(wrong=wrong):
                self.assertEqual(last([begin(1), wrong]), [-1])
                self.assertEqual(last(over((50, 60)) + [wrong]), [-1])

    def test_no_attempt_left_in_this_lift(self):
        calls = started((50, 60), (90, 60)) + [NOT_GOOD, NOT_GOOD]
        self.assertEqual(last(calls + [change(0, 70)]), [1, 0, 70])
        for tried in (GOOD, NOT_GOOD, PASSED_BY):
            with self.subTest(tried=tried):
                self.assertEqual(last(calls + [tried, change(0, 70)]), [-5])
                self.assertEqual(last(calls + [tried, change(1, 70)]), [1, 1, 70])

    def test_no_attempt_left_is_told_ahead_of_what_may_not_be_asked_for(self):
        calls = started((50, 60), (90, 60)) + [NOT_GOOD] * 3
        self.assertEqual(last(calls + [change(0, 49)]), [-5])

    def test_a_wrong_weight_is_told_ahead_of_no_attempt_left(self):
        calls = started((50, 60), (90, 60)) + [NOT_GOOD] * 3
        self.assertEqual(played(calls + [change(0, 0), change(0, 501)])[-2:], [[-1], [-1]])

    def test_a_third_change(self):
        calls = started((50, 60)) + [change(0, 70), change(0, 71)]
        self.assertEqual(played(calls + [change(0, 72)])[-3:], [[1, 0, 70], [2, 0, 71], [-6]])
        self.assertEqual(last(calls + [change(0, 72), UP]), [0, 71, 60, 1, 0])
        calls = started((50, 60)) + [NOT_GOOD, change(0, 70), change(0, 71), change(0, 72), UP]
        self.assertEqual(played(calls)[-2:], [[-6], [0, 71, 120, 2, 0]])

    def test_a_third_change_is_told_ahead_of_what_may_not_be_asked_for(self):
        calls = started((50, 60)) + [NOT_GOOD, change(0, 70), change(0, 71)]
        self.assertEqual(last(calls + [change(0, 49)]), [-6])

    def test_a_wrong_weight_is_told_ahead_of_a_third_change(self):
        calls = started((50, 60)) + [change(0, 70), change(0, 71)]
        self.assertEqual(played(calls + [change(0, 0), change(0, 501)])[-2:], [[-1], [-1]])

    def test_a_refused_one_changes_nothing(self):
        calls = started((50, 60), (55, 60)) + [NOT_GOOD]
        for refused in (change(0, 49), change(0, 0), change(2, 70), change(0, 501), change(1, 49)):
            with self.subTest(refused=refused):
                answers = played(calls + [refused] * 3 + [ORDER, UP, card(0, 0), card(1, 0), change(0, 60)])
                self.assertEqual(answers[-5:], [
                    [2, 0, 50, 1, 55], [0, 50, 120, 2, 0], [1, 50, 0, 50, 0], [0, 55, 0], [1, 1, 55],
                ])


class HowOften(unittest.TestCase):
    def test_an_attempt_lets_them_change_again(self):
        for tried in (GOOD, NOT_GOOD, PASSED_BY):
            calls = started((50, 60)) + [
                change(0, 51), change(0, 52), tried, change(0, 70), change(0, 71), tried, change(0, 80), change(0, 81),
                change(0, 82),
            ]
            with self.subTest(tried=tried):
                self.assertEqual(played(calls)[3:], [
                    [1, 0, 51], [2, 0, 52], [0, 52, 0], [1, 0, 70], [2, 0, 71], [0, 71, 0], [1, 0, 80], [2, 0, 81],
                    [-6],
                ])

    def test_an_attempt_of_another_does_not(self):
        calls = started((50, 60), (90, 60)) + [change(1, 91), change(1, 92), NOT_GOOD]
        self.assertEqual(last(calls + [change(1, 93)]), [-6])
        self.assertEqual(last(calls + [change(0, 60)]), [1, 0, 60])

    def test_each_lifter_has_their_own(self):
        calls = started((50, 60), (50, 60)) + [change(0, 60), change(0, 61), change(1, 62), change(1, 63)]
        self.assertEqual(played(calls)[-4:], [[1, 1, 50], [2, 1, 50], [1, 0, 61], [2, 0, 61]])

    def test_a_refused_one_is_not_counted(self):
        calls = started((50, 60)) + [NOT_GOOD, change(0, 49), change(0, 70), change(0, 49), change(0, 0), change(0, 60)]
        self.assertEqual(played(calls)[-5:], [[-7], [1, 0, 70], [-7], [-1], [2, 0, 60]])

    def test_asking_for_the_same_again_is_a_change(self):
        calls = started((50, 60)) + [change(0, 50), change(0, 50), change(0, 50)]
        self.assertEqual(played(calls)[-3:], [[1, 0, 50], [2, 0, 50], [-6]])

    def test_the_changes_of_the_other_lift_are_counted_anew(self):
        calls = started((50, 60)) + [NOT_GOOD, NOT_GOOD, change(0, 70), change(0, 71), NOT_GOOD]
        calls += [change(0, 61), change(0, 62), change(0, 63), NOT_GOOD, change(0, 64)]
        self.assertEqual(played(calls)[-5:], [[1, 0, 61], [2, 0, 62], [-6], [0, 62, 1], [1, 0, 64]])

    def test_changes_ahead_of_the_start_of_lift_0_leave_those_of_lift_1(self):
        calls = started((50, 60)) + [change(0, 51), change(0, 52)] + [PASSED_BY] * 3 + [change(0, 61), change(0, 62)]
        self.assertEqual(played(calls)[-2:], [[1, 0, 61], [2, 0, 62]])

    def test_a_change_is_of_the_lift_that_is_on_alone(self):
        calls = started((50, 60)) + [change(0, 70)]
        self.assertEqual(played(calls + [card(0, 0), card(0, 1)])[-2:], [[0, 70, 1], [0, 60, 0]])
        calls += [PASSED_BY] * 3 + [change(0, 80)]
        self.assertEqual(played(calls + [card(0, 0), card(0, 1)])[-2:], [[3, 70, 0, 70, 2, 70, 2, 70, 2], [0, 80, 1]])


class WhatIsAnswered(unittest.TestCase):
    def test_who_is_up_behind_the_change(self):
        calls = started((50, 60), (60, 60), (70, 60))
        self.assertEqual(last(calls + [change(0, 55)]), [1, 0, 55])
        self.assertEqual(last(calls + [change(0, 65)]), [1, 1, 60])
        self.assertEqual(last(calls + [change(2, 49)]), [1, 2, 49])
        self.assertEqual(last(calls + [change(1, 99)]), [1, 0, 50])
        self.assertEqual(last(calls + [change(0, 65), change(0, 75)]), [2, 1, 60])
        self.assertEqual(last(calls + [change(0, 65), change(1, 75)]), [1, 0, 65])

    def test_the_order_of_calling_is_behind_the_change(self):
        calls = started((50, 60), (60, 60), (70, 60)) + [change(0, 60), change(2, 60)]
        self.assertEqual(last(calls + [ORDER]), [3, 0, 60, 1, 60, 2, 60])
        self.assertEqual(played(calls + [GOOD, change(0, 65), ORDER])[-2:], [[1, 1, 60], [3, 1, 60, 2, 60, 0, 65]])

    def test_the_attempt_is_made_with_the_weight_asked_for(self):
        self.assertEqual(played(started((50, 60)) + [change(0, 70), GOOD, UP])[-2:], [[0, 70, 0], [0, 71, 120, 2, 0]])


class WhatMayBeAskedFor(unittest.TestCase):
    def assert_asked(self, calls, lifter, allowed=(), refused=()):
        for weight in allowed:
            with self.subTest(lifter=lifter, allowed=weight):
                answers = played(calls + [change(lifter, weight), card(lifter, 0)])
                self.assertGreater(answers[-2][0], 0)
                self.assertEqual(answers[-1][1], weight)
        for weight in refused:
            with self.subTest(lifter=lifter, refused=weight):
                self.assertEqual(last(calls + [change(lifter, weight)]), [-7])

    def test_ahead_of_the_first_attempt_of_all_anything_may_be(self):
        self.assert_asked(started((50, 60)), 0, allowed=(1, 2, 49, 50, 51, 60, 500))

    def test_what_the_last_attempt_asks_for(self):
        self.assert_asked(started((50, 60)) + [GOOD], 0, allowed=(51, 52, 500), refused=(1, 49, 50))
        self.assert_asked(started((50, 60)) + [NOT_GOOD], 0, allowed=(50, 51, 500), refused=(1, 48, 49))
        self.assert_asked(started((50, 60)) + [PASSED_BY], 0, allowed=(50, 51, 500), refused=(1, 48, 49))

    def test_the_last_attempt_tells_not_the_first(self):
        self.assert_asked(started((50, 60)) + [NOT_GOOD, GOOD], 0, allowed=(51,), refused=(50,))
        self.assert_asked(started((50, 60)) + [GOOD, NOT_GOOD], 0, allowed=(51,), refused=(50,))

    def test_a_good_one_asks_for_one_more_also_where_the_bar_would_do(self):
        # Whoever tried last comes ahead of lifter 0 at the bar's weight.
        calls = started((50, 60), (50, 60)) + [GOOD, NOT_GOOD]
        self.assert_asked(calls, 0, allowed=(51,), refused=(50, 49))
        calls = started((50, 60), (50, 60)) + [NOT_GOOD, NOT_GOOD]
        self.assert_asked(calls, 0, allowed=(50, 51), refused=(49,))

    def test_an_earlier_change_does_not_bind(self):
        self.assert_asked(started((50, 60)) + [GOOD, change(0, 70)], 0, allowed=(51, 69, 70, 71), refused=(50,))
        self.assert_asked(started((50, 60)) + [NOT_GOOD, change(0, 70)], 0, allowed=(50, 69), refused=(49,))
        self.assert_asked(started((50, 60)) + [change(0, 70)], 0, allowed=(1, 49, 69))

    def test_behind_an_attempt_turned_round(self):
        self.assert_asked(started((50, 60)) + [GOOD, REVERSE], 0, allowed=(50, 51), refused=(49,))
        self.assert_asked(started((50, 60)) + [NOT_GOOD, REVERSE], 0, allowed=(51, 52), refused=(50,))

    def test_below_at_and_above_the_bar(self):
        self.assert_asked(started((50, 60), (90, 60)) + [GOOD], 1, allowed=(50, 51, 89), refused=(1, 49))
        self.assert_asked(started((90, 60), (50, 60)) + [GOOD], 0, allowed=(51, 52, 89), refused=(1, 49, 50))

    def test_the_bar_weighs_what_was_tried_last_not_what_was_asked_for(self):
        calls = started((50, 60), (90, 60)) + [change(0, 55), NOT_GOOD, change(0, 99)]
        self.assert_asked(calls, 1, allowed=(55, 56), refused=(50, 54))
        calls += [change(1, 60), NOT_GOOD]
        self.assert_asked(calls, 0, allowed=(61, 98), refused=(55, 59))

    def test_as_much_as_the_bar_by_fewer_attempts(self):
        # 1 had one attempt (the third of all) when they were called, 0 has had two, both earlier.
        calls = started((100, 60), (105, 60)) + [NOT_GOOD, NOT_GOOD, change(0, 110), NOT_GOOD, NOT_GOOD]
        self.assert_asked(calls, 0, allowed=(105, 106), refused=(104,))
        # 0 had two attempts when they were called, 1 has had one, behind both.
        calls = started((100, 60), (102, 60)) + [NOT_GOOD, NOT_GOOD, change(0, 105), NOT_GOOD, change(1, 110), NOT_GOOD]
        self.assert_asked(calls, 1, allowed=(106, 109), refused=(105, 104))

    def test_as_much_as_the_bar_by_fewer_attempts_with_none_on_one_side(self):
        # 1 had none when they were called, 0 has had one.
        calls = started((100, 60), (100, 60)) + [NOT_GOOD, NOT_GOOD, change(0, 110)]
        self.assert_asked(calls, 0, allowed=(100, 101), refused=(99,))
        # 0 had one when they were called, 1 has had none.
        calls = started((100, 60), (120, 60)) + [NOT_GOOD, NOT_GOOD]
        self.assert_asked(calls, 1, allowed=(101, 119), refused=(100, 99))

    def test_as_much_as_the_bar_by_an_earlier_last_attempt(self):
        # Each has had one ahead of the last of all: that of 1 came ahead of that of 0.
        calls = started((102, 60), (100, 60)) + [NOT_GOOD, change(1, 105), NOT_GOOD, change(0, 110), NOT_GOOD]
        self.assert_asked(calls, 0, allowed=(105, 106), refused=(104,))
        # Here that of 0, who tried last, came behind that of 1.
        calls = started((102, 60), (100, 60)) + [NOT_GOOD, change(1, 110), NOT_GOOD, NOT_GOOD]
        self.assert_asked(calls, 1, allowed=(103, 109), refused=(102, 101))

    def test_as_much_as_the_bar_by_the_lesser_lot(self):
        calls = started((90, 60), (80, 60), (90, 60)) + [NOT_GOOD]
        self.assert_asked(calls, 0, allowed=(81,), refused=(80,))
        self.assert_asked(calls, 2, allowed=(80, 81), refused=(79,))

    def test_the_lot_tells_only_behind_the_two_others(self):
        # Both have had one attempt ahead of the last of all; 0 tried last, and had tried earlier than 1.
        calls = started((100, 60), (101, 60)) + [NOT_GOOD, change(0, 103), NOT_GOOD, change(1, 110), NOT_GOOD]
        self.assert_asked(calls, 1, allowed=(103, 104), refused=(102,))

    def test_who_tried_last_may_ask_for_the_bar_again(self):
        for tried in (NOT_GOOD, PASSED_BY):
            calls = started((90, 60), (100, 60)) + [tried, change(0, 110), tried, change(1, 120)]
            with self.subTest(tried=tried):
                self.assert_asked(calls, 1, allowed=(100, 101), refused=(99,))
                # 0 had tried ahead of that, 1 had not.
                self.assert_asked(calls, 0, allowed=(100, 101), refused=(99,))
        self.assert_asked(started((100, 60), (130, 60)) + [NOT_GOOD, NOT_GOOD, change(0, 120)], 0, (100, 101), (99,))
        self.assert_asked(started((100, 60), (130, 60)) + [GOOD, change(0, 120)], 0, (101, 102), (100, 99))

    def test_what_the_reversal_leaves_of_the_bar(self):
        # The bar and who tried last stay: 1 may ask for as much, 0 may not.
        calls = started((90, 60), (80, 60), (90, 60)) + [NOT_GOOD, REVERSE]
        self.assert_asked(calls, 0, allowed=(81,), refused=(80,))
        self.assert_asked(calls, 2, allowed=(80, 81), refused=(79,))
        self.assert_asked(calls, 1, allowed=(81,), refused=(80,))


class InTheOtherLift(unittest.TestCase):
    def test_the_bar_weighs_nothing_till_somebody_tries(self):
        calls = started((200, 60), (210, 70)) + [GOOD] * 6
        for weight in (1, 2, 199, 200, 212, 213, 500):
            for lifter in (0, 1):
                with self.subTest(lifter=lifter, weight=weight):
                    answers = played(calls + [change(lifter, weight), card(lifter, 1)])
                    self.assertEqual(answers[-2][0], 1)
                    self.assertEqual(answers[-1], [0, weight, 1])
        self.assertEqual(last(calls + [change(0, 0)]), [-1])
        self.assertEqual(last(calls + [change(1, 0)]), [-1])

    def test_then_it_weighs_what_was_tried_in_that_lift(self):
        calls = started((200, 60), (210, 70)) + [GOOD] * 7
        self.assertEqual(played(calls + [change(1, 59), change(1, 60)])[-2:], [[-7], [1, 1, 60]])
        self.assertEqual(played(calls + [change(0, 60), change(0, 61)])[-2:], [[-7], [1, 0, 61]])

    def test_attempts_of_the_lift_before_do_not_tell(self):
        # In lift 0, 0 has tried ahead of 1, in lift 1 the first is 1.
        calls = started((50, 90), (60, 80)) + [NOT_GOOD] * 7
        self.assertEqual(last(calls + [UP]), [1, 80, 120, 2, 1])
        self.assertEqual(played(calls + [change(0, 80), change(0, 81)])[-2:], [[-7], [1, 1, 80]])
        calls = started((60, 80), (50, 90)) + [NOT_GOOD] * 7
        self.assertEqual(last(calls + [change(1, 80)]), [1, 1, 80])

    def test_three_attempts_in_the_lift_before_leave_three_here(self):
        calls = started((50, 60)) + [NOT_GOOD] * 3
        self.assertEqual(last(calls + [change(0, 70)]), [1, 0, 70])
        self.assertEqual(last(calls + [NOT_GOOD, NOT_GOOD, change(0, 70)]), [1, 0, 70])


class ASecondBegin(unittest.TestCase):
    def test_forgets_the_bar_and_the_changes(self):
        calls = started((50, 60)) + [change(0, 80), change(0, 90), GOOD, change(0, 95)]
        calls += [begin(0), ask(0, 50, 60), START, change(0, 10), change(0, 20), change(0, 30)]
        self.assertEqual(played(calls)[-6:], [[1], [0], [0, 50, 60, 1, 0], [1, 0, 10], [2, 0, 20], [-6]])


if __name__ == "__main__":
    unittest.main()
