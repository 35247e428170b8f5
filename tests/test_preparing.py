"""Promise 1: begin, ask, start."""

import unittest

from play import GOOD, HIGHEST, LOWEST, ORDER, START, UP, ask, begin, last, over, played, started


class Begin(unittest.TestCase):
    def test_tells_how_many_lifters_there_are(self):
        self.assertEqual(last([begin(3)]), [1])
        self.assertEqual(last([begin(3, 4, 3)]), [3])
        self.assertEqual(last([begin(*[5] * 24)]), [24])

    def test_too_few_and_too_many_lifters(self):
        self.assertEqual(last([begin()]), [-1])
        self.assertEqual(last([begin(*[5] * 25)]), [-1])
        self.assertEqual(last([begin(*[5] * 30)]), [-1])

    def test_the_ends_of_the_teams(self):
        self.assertEqual(last([begin(0, 20)]), [2])
        for team in (-1, 21, LOWEST, HIGHEST):
            for teams in ((team,), (team, 0, 0), (0, team, 0), (0, 0, team)):
                with self.subTest(teams=teams):
                    self.assertEqual(last([begin(*teams)]), [-1])

    def test_a_refused_begin_is_read_to_its_end(self):
        self.assertEqual(played([begin(*[21] * 30), begin(1, 2), begin(), begin(7)]), [[-1], [2], [-1], [1]])

    def test_a_second_one_in_the_middle_makes_a_new_contest(self):
        calls = started((50, 60), (51, 61)) + [GOOD, begin(1)]
        self.assertEqual(last(calls), [1])
        self.assertEqual(last(calls + [UP]), [-4])
        self.assertEqual(last(calls + [START]), [-4])
        self.assertEqual(last(calls + [ask(1, 70, 80)]), [-1])
        calls += [ask(0, 70, 80), START]
        self.assertEqual(last(calls), [0, 70, 60, 1, 0])
        self.assertEqual(last(calls + [ORDER]), [1, 0, 70])

    def test_a_second_one_ahead_of_the_start_forgets_what_was_asked_for(self):
        calls = [begin(1), ask(0, 50, 60), begin(1), START]
        self.assertEqual(last(calls), [-4])

    def test_a_second_one_in_the_other_lift_begins_at_the_first_lift(self):
        calls = started((50, 60)) + [GOOD] * 4 + [begin(1), ask(0, 70, 80), START]
        self.assertEqual(last(calls), [0, 70, 60, 1, 0])

    def test_a_second_one_when_it_is_over_makes_a_new_contest(self):
        calls = over((50, 60)) + [begin(1, 2), ask(0, 70, 80), ask(1, 69, 80), START]
        self.assertEqual(played(calls)[-4:], [[2], [0], [0], [1, 69, 60, 1, 0]])

    def test_a_refused_one_changes_nothing(self):
        for refused in (begin(), begin(*[0] * 25), begin(0, 21), begin(-1)):
            with self.subTest(refused=refused):
                calls = [begin(1, 2), ask(0, 50, 60), refused, ask(1, 51, 61), refused, START, refused]
                self.assertEqual(played(calls), [[2], [0], [-1], [0], [-1], [0, 50, 60, 1, 0], [-1]])
                self.assertEqual(last(calls + [GOOD, refused, UP]), [1, 51, 60, 1, 0])
                self.assertEqual(played(over((50, 60)) + [refused, UP, START])[-3:], [[-1], [-4], [-3]])


class Ask(unittest.TestCase):
    def test_is_answered_with_0(self):
        self.assertEqual(last([begin(1, 2), ask(0, 50, 60)]), [0])

    def test_the_ends_of_the_lifters(self):
        for lifter, answer in ((-1, -1), (0, 0), (2, 0), (3, -1), (LOWEST, -1), (HIGHEST, -1)):
            with self.subTest(lifter=lifter):
                self.assertEqual(last([begin(1, 2, 3), ask(lifter, 50, 60)]), [answer])

    def test_the_last_of_24_lifters(self):
        self.assertEqual(last([begin(*[0] * 24), ask(23, 50, 60)]), [0])
        self.assertEqual(last([begin(*[0] * 24), ask(24, 50, 60)]), [-1])

    def test_the_ends_of_each_weight(self):
        for weight, answer in ((0, -1), (1, 0), (500, 0), (501, -1), (-1, -1), (LOWEST, -1), (HIGHEST, -1)):
            with self.subTest(weight=weight):
                self.assertEqual(last([begin(1), ask(0, weight, 60)]), [answer])
                self.assertEqual(last([begin(1), ask(0, 60, weight)]), [answer])
                self.assertEqual(last([begin(1), ask(0, weight, weight)]), [answer])

    def test_each_weight_is_for_its_lift(self):
        calls = started((1, 500))
        self.assertEqual(last(calls), [0, 1, 60, 1, 0])
        self.assertEqual(last(calls + [GOOD] * 3 + [UP]), [0, 500, 60, 1, 1])

    def test_told_again_it_is_that(self):
        calls = [begin(1), ask(0, 50, 60), ask(0, 40, 30), START]
        self.assertEqual(played(calls)[2:], [[0], [0, 40, 60, 1, 0]])
        self.assertEqual(last(calls + [GOOD] * 3 + [UP]), [0, 30, 60, 1, 1])

    def test_a_refused_one_changes_nothing(self):
        calls = [begin(1), ask(0, 50, 60), ask(0, 40, 501), ask(0, 0, 30), START]
        self.assertEqual(played(calls)[2:], [[-1], [-1], [0, 50, 60, 1, 0]])
        self.assertEqual(last(calls + [GOOD] * 3 + [UP]), [0, 60, 60, 1, 1])
        self.assertEqual(last([begin(1), ask(0, 40, 501), START]), [-4])

    def test_ahead_of_any_begin_there_is_no_lifter(self):
        self.assertEqual(last([ask(0, 50, 60)]), [-1])
        self.assertEqual(last([begin(21), ask(0, 50, 60)]), [-1])

    def test_once_it_has_begun(self):
        calls = started((50, 60), (51, 61))
        self.assertEqual(last(calls + [ask(0, 55, 65)]), [-3])
        self.assertEqual(last(calls + [ask(0, 55, 65), UP]), [0, 50, 60, 1, 0])
        self.assertEqual(last(calls + [GOOD] * 6 + [ask(1, 55, 65)]), [-3])
        self.assertEqual(last(over((50, 60)) + [ask(0, 55, 65)]), [-3])

    def test_a_wrong_number_is_told_ahead_of_having_begun(self):
        for wrong in (ask(-1, 50, 60), ask(1, 50, 60), ask(0, 0, 60), ask(0, 50, 501)):
            with self.subTest(wrong=wrong):
                self.assertEqual(last(started((50, 60)) + [wrong]), [-1])
                self.assertEqual(last(over((50, 60)) + [wrong]), [-1])


class Start(unittest.TestCase):
    def test_without_lifters(self):
        self.assertEqual(last([START]), [-2])
        self.assertEqual(last([begin(), START]), [-2])

    def test_one_has_not_asked_yet(self):
        self.assertEqual(last([begin(1), START]), [-4])
        asked = [ask(0, 50, 60), ask(1, 50, 60), ask(2, 50, 60)]
        for missing in range(3):
            with self.subTest(missing=missing):
                calls = [begin(1, 2, 3)] + asked[:missing] + asked[missing + 1:] + [START]
                self.assertEqual(last(calls), [-4])
                self.assertEqual(last(calls + [UP]), [-4])
                self.assertEqual(last(calls + [asked[missing], START]), [0, 50, 60, 1, 0])

    def test_tells_who_is_up_and_with_what(self):
        self.assertEqual(last(started((52, 60), (51, 61), (53, 62))), [1, 51, 60, 1, 0])

    def test_once_it_has_begun(self):
        calls = started((50, 60))
        self.assertEqual(last(calls + [START]), [-3])
        self.assertEqual(last(calls + [GOOD, START]), [-3])
        self.assertEqual(last(calls + [GOOD, START, UP]), [0, 51, 120, 2, 0])
        self.assertEqual(last(calls + [GOOD] * 4 + [START]), [-3])
        self.assertEqual(last(over((50, 60)) + [START]), [-3])


if __name__ == "__main__":
    unittest.main()
