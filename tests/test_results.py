"""Promise 4: card, ranked, points."""

import unittest

from play import (
    GOOD, HIGHEST, LOWEST, NOT_GOOD, ORDER, PASSED_BY, REVERSE, START, ask, begin, card, change, last, over, played,
    points, ranked, started, try_one,
)

from barcontest.results import best_attempt, worth
from barcontest.state import Attempt, Record


class Card(unittest.TestCase):
    def test_the_ends_of_the_lifters(self):
        for calls in ([begin(0, 0)], started((50, 60), (51, 61)), over((50, 60), (51, 61))):
            for lifter in (-1, 2, LOWEST, HIGHEST):
                with self.subTest(lifter=lifter):
                    self.assertEqual(played(calls + [card(lifter, 0), card(lifter, 1)])[-2:], [[-1], [-1]])
        calls = started((50, 60), (51, 61)) + [card(0, 0), card(0, 1), card(1, 0), card(1, 1)]
        self.assertEqual(played(calls)[-4:], [[0, 50, 0], [0, 60, 0], [0, 51, 0], [0, 61, 0]])

    def test_the_last_of_24_lifters(self):
        calls = started(*[(50 + lifter, 60) for lifter in range(24)])
        self.assertEqual(played(calls + [card(23, 0), card(24, 0)])[-2:], [[0, 73, 0], [-1]])

    def test_the_ends_of_the_lifts(self):
        for lift in (-1, 2, LOWEST, HIGHEST):
            with self.subTest(lift=lift):
                self.assertEqual(last(started((50, 60)) + [card(0, lift)]), [-1])
                self.assertEqual(last(over((50, 60)) + [card(0, lift)]), [-1])

    def test_ahead_of_any_begin_there_is_no_lifter(self):
        self.assertEqual(played([card(0, 0), begin(21), card(0, 0)]), [[-1], [-1], [-1]])

    def test_ahead_of_the_first_asking(self):
        self.assertEqual(played([begin(0, 0), ask(1, 50, 60), card(0, 0), card(0, 1)])[-2:], [[0, 0, 0], [0, 0, 0]])

    def test_a_refused_asking_is_none(self):
        self.assertEqual(last([begin(0), ask(0, 50, 501), card(0, 0)]), [0, 0, 0])

    def test_asked_but_not_begun(self):
        calls = [begin(0), ask(0, 50, 60)]
        self.assertEqual(played(calls + [card(0, 0), card(0, 1)])[-2:], [[0, 50, 0], [0, 60, 0]])
        calls += [ask(0, 500, 1)]
        self.assertEqual(played(calls + [card(0, 0), card(0, 1)])[-2:], [[0, 500, 0], [0, 1, 0]])

    def test_behind_one_attempt(self):
        for good, weight in ((1, 51), (0, 50), (2, 50)):
            with self.subTest(good=good):
                self.assertEqual(last(started((50, 60)) + [try_one(good), card(0, 0)]), [1, weight, 0, 50, good])

    def test_behind_two_and_three_attempts(self):
        calls = started((50, 60))
        for one in (0, 1, 2):
            for two in (0, 1, 2):
                for three in (0, 1, 2):
                    weights = [50, 50 + one % 2, 50 + one % 2 + two % 2, 50 + one % 2 + two % 2 + three % 2]
                    tried = [try_one(one), try_one(two), card(0, 0), try_one(three), card(0, 0)]
                    answers = played(calls + tried)
                    with self.subTest(good=(one, two, three)):
                        self.assertEqual(answers[-3], [2, weights[2], 0, 50, one, weights[1], two])
                        self.assertEqual(
                            answers[-1], [3, weights[3], 0, 50, one, weights[1], two, weights[2], three])

    def test_tells_how_often_what_is_asked_for_was_changed(self):
        calls = started((50, 60)) + [change(0, 70), card(0, 0), change(0, 65), card(0, 0), change(0, 66), card(0, 0)]
        self.assertEqual(played(calls)[-5:], [[0, 70, 1], [2, 0, 65], [0, 65, 2], [-6], [0, 65, 2]])
        for tried, weight in ((GOOD, 66), (NOT_GOOD, 65), (PASSED_BY, 65)):
            with self.subTest(tried=tried):
                behind = played(calls + [tried, card(0, 0), change(0, 90), card(0, 0)])
                self.assertEqual(behind[-3], [1, weight, 0, 65, tried[1]])
                self.assertEqual(behind[-1], [1, 90, 1, 65, tried[1]])

    def test_no_changes_behind_the_third_attempt(self):
        calls = started((50, 60)) + [GOOD, GOOD, change(0, 70), change(0, 71), GOOD, card(0, 0), change(0, 80)]
        self.assertEqual(played(calls + [card(0, 0)])[-3:], [
            [3, 72, 0, 50, 1, 51, 1, 71, 1], [1, 0, 80], [3, 72, 0, 50, 1, 51, 1, 71, 1],
        ])

    def test_each_lift_has_its_own(self):
        calls = started((50, 60), (90, 61)) + [GOOD, NOT_GOOD]
        self.assertEqual(played(calls + [card(0, 0), card(0, 1)])[-2:], [[2, 51, 0, 50, 1, 51, 0], [0, 60, 0]])
        calls += [PASSED_BY] * 4 + [NOT_GOOD, GOOD]
        self.assertEqual(played(calls + [card(0, 0), card(0, 1), card(1, 0), card(1, 1)])[-4:], [
            [3, 51, 0, 50, 1, 51, 0, 51, 2], [2, 61, 0, 60, 0, 60, 1], [3, 90, 0, 90, 2, 90, 2, 90, 2], [0, 61, 0],
        ])

    def test_changes_nothing(self):
        calls = started((50, 60), (50, 60)) + [GOOD]
        self.assertEqual(last(calls + [card(0, 0), card(1, 1), card(2, 0), ORDER]), last(calls + [ORDER]))


class Ranked(unittest.TestCase):
    def test_the_ends_of_the_orders(self):
        for calls in ([], [begin(0)], started((50, 60)), over((50, 60))):
            for order in (-1, 3, LOWEST, HIGHEST):
                with self.subTest(order=order):
                    self.assertEqual(last(calls + [ranked(order)]), [-1])
        self.assertEqual(played(over((50, 60)) + [ranked(0), ranked(1), ranked(2)])[-3:], [
            [1, 0, 52], [1, 0, 62], [1, 0, 114],
        ])

    def test_nobody_is_in_it(self):
        for calls in ([], [begin(21)], [begin(0)], [begin(0), ask(0, 50, 60)], started((50, 60))):
            self.assertEqual(played(calls + [ranked(0), ranked(1), ranked(2)])[-3:], [[0], [0], [0]])
        for tried in (NOT_GOOD, PASSED_BY):
            calls = started((50, 60), (51, 61)) + [tried] * 12
            with self.subTest(tried=tried):
                self.assertEqual(played(calls + [ranked(0), ranked(1), ranked(2)])[-3:], [[0], [0], [0]])

    def test_only_those_with_a_good_one_in_that_lift(self):
        # 1 has none in lift 0, 0 has none in lift 1.
        calls = started((50, 80), (60, 70), (70, 60))
        calls += [GOOD] * 3 + [NOT_GOOD, PASSED_BY, NOT_GOOD] + [GOOD] * 3
        calls += [GOOD] * 3 + [GOOD] * 3 + [NOT_GOOD, PASSED_BY, NOT_GOOD]
        self.assertEqual(played(calls + [ranked(0), ranked(1), ranked(2)])[-3:], [
            [2, 2, 72, 0, 52], [2, 1, 72, 2, 62], [1, 2, 134],
        ])

    def test_the_heaviest_good_one_counts(self):
        calls = started((50, 60))
        for tried, weight in (
                ([GOOD], 50), ([GOOD, GOOD], 51), ([GOOD, NOT_GOOD], 50), ([NOT_GOOD, GOOD], 50),
                ([GOOD, NOT_GOOD, GOOD], 51), ([GOOD, GOOD, NOT_GOOD], 51), ([GOOD, GOOD, PASSED_BY], 51),
                ([GOOD, change(0, 70), GOOD, GOOD], 71), ([GOOD, change(0, 70), GOOD, change(0, 80), NOT_GOOD], 70),
                ([PASSED_BY, PASSED_BY, GOOD], 50)):
            with self.subTest(tried=tried):
                self.assertEqual(last(calls + tried + [ranked(0)]), [1, 0, weight])

    def test_the_heavier_goes_ahead(self):
        calls = started((50, 80), (70, 60), (60, 70)) + [GOOD] * 18
        self.assertEqual(played(calls + [ranked(0), ranked(1), ranked(2)])[-3:], [
            [3, 1, 72, 2, 62, 0, 52], [3, 0, 82, 2, 72, 1, 62], [3, 1, 134, 2, 134, 0, 134],
        ])

    def test_of_as_much_who_made_it_earlier(self):
        # 2 tries ahead of 0 and 1, but makes 51 behind them.
        calls = started((51, 60), (51, 60), (50, 60)) + [NOT_GOOD, change(2, 51), GOOD, GOOD, GOOD]
        self.assertEqual(played(calls + [ranked(0)])[-4:], [
            [0, 51, 0], [1, 51, 0], [2, 51, 0], [3, 0, 51, 1, 51, 2, 51],
        ])
        calls = started((60, 60), (50, 60)) + [NOT_GOOD, change(1, 60), NOT_GOOD, GOOD, GOOD]
        self.assertEqual(played(calls + [ranked(0)])[-4:], [[0, 60, 0], [1, 60, 0], [0, 60, 0], [2, 1, 60, 0, 60]])

    def test_who_made_it_earlier_not_who_tried_earlier(self):
        # 0 tries 50 first, but makes it only behind 1.
        calls = started((50, 60), (50, 60)) + [NOT_GOOD, GOOD, GOOD]
        self.assertEqual(played(calls + [ranked(0)])[-3:], [[1, 50, 0], [0, 50, 0], [2, 1, 50, 0, 50]])

    def test_later_attempts_with_more_do_not_tell_when_not_good(self):
        calls = started((50, 60), (50, 60)) + [GOOD, GOOD, NOT_GOOD, NOT_GOOD]
        self.assertEqual(last(calls + [ranked(0)]), [2, 0, 50, 1, 50])

    def test_while_it_is_on(self):
        calls = started((50, 60), (52, 60))
        self.assertEqual(last(calls + [GOOD, ranked(0)]), [1, 0, 50])
        self.assertEqual(last(calls + [GOOD, GOOD, ranked(0)]), [1, 0, 51])
        self.assertEqual(last(calls + [GOOD, GOOD, GOOD, ranked(0)]), [2, 1, 52, 0, 51])
        self.assertEqual(last(calls + [GOOD] * 4 + [ranked(0)]), [2, 1, 52, 0, 52])

    def test_the_orders_of_the_lifts_are_apart(self):
        calls = started((50, 60)) + [GOOD] * 4
        self.assertEqual(played(calls + [ranked(0), ranked(1), ranked(2)])[-3:], [[1, 0, 52], [1, 0, 60], [1, 0, 112]])
        calls = started((50, 60)) + [GOOD] * 3
        self.assertEqual(played(calls + [ranked(0), ranked(1), ranked(2)])[-3:], [[1, 0, 52], [0], [0]])

    def test_weights_behind_500(self):
        calls = over((500, 500))
        self.assertEqual(played(calls + [ranked(0), ranked(1), ranked(2)])[-3:], [
            [1, 0, 502], [1, 0, 502], [1, 0, 1004],
        ])


class RankedInBoth(unittest.TestCase):
    def test_by_both_together(self):
        calls = started((50, 90), (70, 60), (60, 79)) + [GOOD] * 18
        self.assertEqual(last(calls + [ranked(2)]), [3, 0, 144, 2, 143, 1, 134])

    def test_of_as_much_who_made_the_one_in_lift_1_earlier(self):
        # In lift 0 1 is ahead, in lift 1 0 is called first with what counts.
        calls = started((60, 50), (50, 60)) + [PASSED_BY, PASSED_BY, GOOD, PASSED_BY, PASSED_BY, GOOD]
        calls += [GOOD, PASSED_BY, PASSED_BY, GOOD]
        self.assertEqual(played(calls + [ranked(0), ranked(1), ranked(2)])[-3:], [
            [2, 0, 60, 1, 50], [2, 1, 60, 0, 50], [2, 0, 110, 1, 110],
        ])
        calls = started((50, 60), (60, 50)) + [PASSED_BY, PASSED_BY, GOOD, PASSED_BY, PASSED_BY, GOOD]
        calls += [GOOD, PASSED_BY, PASSED_BY, GOOD]
        self.assertEqual(played(calls + [ranked(0), ranked(1), ranked(2)])[-3:], [
            [2, 1, 60, 0, 50], [2, 0, 60, 1, 50], [2, 1, 110, 0, 110],
        ])

    def test_of_as_much_the_turns_of_lift_0_do_not_tell(self):
        # 0 makes 50 ahead of 1 in lift 0; in lift 1 1 makes 60 ahead of 0.
        calls = started((50, 60), (50, 60)) + [GOOD, GOOD] + [PASSED_BY] * 4 + [NOT_GOOD, GOOD, GOOD]
        self.assertEqual(played(calls + [ranked(0), ranked(1), ranked(2)])[-3:], [
            [2, 0, 50, 1, 50], [2, 1, 60, 0, 60], [2, 1, 110, 0, 110],
        ])

    def test_one_in_each_lift_is_asked_for(self):
        calls = started((50, 60), (55, 65))
        calls += [NOT_GOOD] * 3 + [GOOD] * 3 + [GOOD] * 3 + [NOT_GOOD] * 3
        self.assertEqual(played(calls + [ranked(0), ranked(1), ranked(2)])[-3:], [[1, 1, 57], [1, 0, 62], [0]])


class TheBestAttempt(unittest.TestCase):
    def record_of(self, *attempts):
        record = Record()
        record.attempts = [Attempt(weight, good, turn) for weight, good, turn in attempts]
        return record

    def test_of_the_same_weight_twice_the_first_counts(self):
        best = best_attempt(self.record_of((50, 0, 1), (51, 1, 3), (51, 1, 6)))
        self.assertEqual((best.weight, best.turn), (51, 3))

    def test_none_is_good(self):
        self.assertIsNone(best_attempt(self.record_of()))
        self.assertIsNone(best_attempt(self.record_of((50, 0, 1), (51, 2, 3), (51, 0, 6))))


class Points(unittest.TestCase):
    def test_the_ends_of_the_teams(self):
        calls = [begin(0, 20), ask(0, 50, 60), ask(1, 51, 61), START] + [GOOD] * 12
        for ahead in ([], [begin(0, 20)], calls):
            for team in (-1, 21, LOWEST, HIGHEST):
                with self.subTest(team=team):
                    self.assertEqual(last(ahead + [points(team)]), [-1])
        self.assertEqual(played(calls + [points(0), points(20)])[-2:], [[25 * 3], [28 * 3]])

    def test_a_team_with_none(self):
        self.assertEqual(played([points(0), points(20), begin(21), points(7)]), [[0], [0], [-1], [0]])
        self.assertEqual(played(over((50, 60)) + [points(0), points(1), points(20)])[-3:], [[84], [0], [0]])

    def test_nobody_has_made_one(self):
        calls = [begin(4), points(4), ask(0, 50, 60), points(4), START, points(4)]
        self.assertEqual(played(calls), [[1], [0], [0], [0], [0, 50, 60, 1, 0], [0]])
        self.assertEqual(last([begin(4), ask(0, 50, 60), START] + [NOT_GOOD, PASSED_BY] * 3 + [points(4)]), [0])

    def test_what_the_places_are_worth(self):
        self.assertEqual([worth(place) for place in range(1, 26)], [
            28, 25, 23, 22, 21, 20, 19, 18, 17, 16, 15, 14, 13, 12, 11, 10, 9, 8, 7, 6, 5, 4, 3, 2, 1,
        ])

    def test_the_first_three_of_each_order(self):
        calls = [begin(1, 2, 3), ask(0, 50, 80), ask(1, 70, 60), ask(2, 60, 75), START]
        lift_0 = played(calls + [GOOD] * 9 + [points(1), points(2), points(3)])[-3:]
        self.assertEqual(lift_0, [[23], [28], [25]])
        # Lift 1: 82, 62, 77; both: 134, 134 (made earlier), 139.
        both = played(calls + [GOOD] * 18 + [ranked(2), points(1), points(2), points(3)])[-4:]
        self.assertEqual(both, [[3, 2, 139, 1, 134, 0, 134], [23 + 28 + 23], [28 + 23 + 25], [25 + 25 + 28]])

    def test_only_those_who_are_in_an_order(self):
        # 1 has a good one in lift 0 alone: 28 for that, 0 is first in the two others.
        calls = [begin(1, 2), ask(0, 50, 60), ask(1, 60, 70), START] + [GOOD] * 9 + [NOT_GOOD] * 3
        self.assertEqual(played(calls + [points(1), points(2)])[-2:], [[25 + 28 + 28], [28]])

    def test_a_team_with_several_lifters(self):
        calls = [begin(5, 7, 5, 0), ask(0, 50, 50), ask(1, 60, 60), ask(2, 70, 70), ask(3, 80, 80), START]
        calls += [GOOD] * 24
        self.assertEqual(played(calls + [points(team) for team in (5, 7, 0, 6)])[-4:], [
            [3 * (25 + 22)], [3 * 23], [3 * 28], [0],
        ])

    def test_24_lifters_of_one_team(self):
        calls = [begin(*[9] * 24)] + [ask(lifter, 10 * lifter + 10, 10 * lifter + 10) for lifter in range(24)] + [START]
        calls += [GOOD] * 144
        together = 28 + 25 + sum(range(2, 24))
        self.assertEqual(together, 328)
        self.assertEqual(played(calls + [points(9), points(8)])[-2:], [[3 * together], [0]])

    def test_each_place_of_24_lifters(self):
        # The four lightest are of team 20; of the others each has a team of their own.
        teams = [20] * 4 + list(range(20))
        calls = [begin(*teams)] + [ask(lifter, 10 * lifter + 10, 10 * lifter + 10) for lifter in range(24)] + [START]
        calls += [GOOD] * 144
        worths = [28, 25] + list(range(23, 1, -1))
        found = played(calls + [points(team) for team in range(21)])[-21:]
        self.assertEqual(found, [[3 * worths[19 - team]] for team in range(20)] + [[3 * sum(worths[20:])]])


class ASecondBegin(unittest.TestCase):
    def test_nothing_of_what_was_is_told(self):
        asked = [card(0, 0), card(0, 1), card(1, 0), ranked(0), ranked(1), ranked(2), points(0), points(3), REVERSE]
        for tries in (0, 1, 5, 6, 7, 11, 12):
            calls = started((50, 60), (51, 61)) + [change(0, 45), change(1, 46)] + [GOOD] * tries + [begin(3)]
            with self.subTest(tries=tries):
                self.assertEqual(played(calls + asked)[-9:], [
                    [0, 0, 0], [0, 0, 0], [-1], [0], [0], [0], [0], [0], [-4],
                ])

    def test_a_refused_one_changes_none_of_it(self):
        calls = over((50, 60)) + [begin(21), card(0, 0), ranked(2), points(0)]
        self.assertEqual(played(calls)[-4:], [[-1], [3, 53, 0, 50, 1, 51, 1, 52, 1], [1, 0, 114], [84]])


if __name__ == "__main__":
    unittest.main()
