"""Point 3: check and bring; and with check what a week takes, costs and pays."""

import unittest

from tests.lines import GREATEST, ask, begins, bring, check, join, last, play


def debt_of(*calls):
    told = last(*calls)
    return told[-1]


class WhatANightTakes(unittest.TestCase):
    def paid(self, *calls):
        return last(*calls)[2]

    def test_by_how_many_of_a_hundred_come(self):
        for crowd, wanted in [(0, 0), (1, 0), (3, 0), (4, 1), (33, 8), (99, 24), (100, 25), (101, 25), (300, 75)]:
            self.assertEqual(self.paid(begins(crowds=[crowd]), play([25]), join(), check([1])), wanted, crowd)

    def test_each_night_is_rounded_down_by_itself(self):
        self.assertEqual(self.paid(begins(crowds=[50, 50]), play([11], most=2), join(), check([1, 1])), 10)

    def test_each_night_has_its_own_crowd(self):
        season = [begins(crowds=[200, 50]), play([10]), join()]
        self.assertEqual(self.paid(*season, check([1, 0])), 20)
        self.assertEqual(self.paid(*season, check([0, 1])), 5)

    def test_by_how_often_it_was_given_on_earlier_nights_of_the_season(self):
        season = [begins(crowds=[100, 100]), play([1, 2, 4, 8, 16, 32], most=2), join()]
        self.assertEqual(self.paid(*season, check([1, 1], [1, 1], [1, 1])), 63)
        self.assertEqual(self.paid(*season, check([1, 0], [0, 1], [1, 1])), 15)
        self.assertEqual(last(*season, check([0, 1], [0, 0], [1, 1])), [
            1, 1, 7, 2, 0, 1, 1, 1, 2, 0, 0, 1, 0, 2, 1, 1, 1, 6, 2, 0, 0])

    def test_from_the_last_number_on_it_stays(self):
        self.assertEqual(self.paid(begins(), play([9]), join(), check([1], [1], [1])), 27)
        self.assertEqual(self.paid(begins(), play([9, 5]), join(), check([1], [1], [1])), 19)

    def test_another_play_does_not_wear_it_out(self):
        season = [begins(crowds=[100, 100]), play([50, 1]), play([70, 3]), join()]
        self.assertEqual(self.paid(*season, check([1, 2])), 120)
        self.assertEqual(self.paid(*season, check([1, 2], [2, 0], [0, 1])), 124)

    def test_a_dark_house_takes_nothing(self):
        self.assertEqual(self.paid(begins(crowds=[300, 300]), play([100]), join(), check([0, 0])), 0)


class Work(unittest.TestCase):
    season = [begins(crowds=[0, 0]), play([0], 1, 2, most=2), play([0], 10, 20, most=2), join()]

    def test_sets_up_and_strikes_in_each_week_by_itself(self):
        for plan, wanted in [
            ([[0, 0]], 0),
            ([[1, 0]], 3),
            ([[0, 1]], 3),
            ([[1, 1]], 3),
            ([[1, 2]], 33),
            ([[2, 1]], 33),
            ([[2, 2]], 30),
            ([[0, 1], [1, 0]], 6),
            ([[1, 1], [1, 1], [1, 1]], 9),
            ([[1, 2], [2, 1], [2, 2]], 96),
        ]:
            self.assertEqual(debt_of(*self.season, check(*plan)), wanted, plan)

    def test_in_a_week_of_one_night(self):
        self.assertEqual(debt_of(begins(), play([0], 100, 1), check([1])), 101)


class BehindTheWeek(unittest.TestCase):
    def test_what_is_left_is_paid_out(self):
        self.assertEqual(last(begins(3, 0, 4), play([30], 1, 2), join(), check([1])), [1, 1, 20, 1, 1, 1, 20, 2, 0, 0])

    def test_what_is_missing_comes_from_the_fund_then_it_is_debt(self):
        season = [begins(6, 10, 5), bring(10), join()]
        self.assertEqual(last(*season, check()), [1, 1, 0, 2, 10, 0])
        self.assertEqual(last(*season, check([0])), [1, 1, 0, 1, 0, 1, 0, 2, 0, 1])
        self.assertEqual(last(*season, check([0], [0])), [1, 1, 0, 1, 0, 1, 0, 1, 0, 1, 0, 2, 0, 12])

    def test_the_fund_need_not_be_used_up(self):
        season = [begins(6, 20, 0), bring(20), join()]
        self.assertEqual(last(*season, check([0], [0])), [1, 1, 0, 1, 0, 1, 0, 1, 0, 1, 0, 2, 8, 0])

    def test_a_penny_missing(self):
        self.assertEqual(last(begins(0, 5, 10), bring(3), play([9]), join(), check([1])), [1, 1, 0, 1, 1, 1, 0, 2, 2, 0])
        self.assertEqual(last(begins(0, 5, 10), play([9]), join(), check([1])), [1, 1, 0, 1, 1, 1, 0, 2, 0, 1])

    def test_what_is_just_met_leaves_all_as_it_is(self):
        self.assertEqual(last(begins(4, 9, 6), bring(3), play([10]), join(), check([1])), [1, 1, 0, 1, 1, 1, 0, 2, 3, 0])

    def test_debt_is_paid_ahead_of_the_fund_and_the_fund_ahead_of_the_sharers(self):
        # Week 0 makes a debt of 10; the fund holds 8 at the most.
        for left, paid, fund, debt in [(4, 0, 0, 6), (10, 0, 0, 0), (13, 0, 3, 0), (18, 0, 8, 0), (21, 3, 8, 0)]:
            told = last(begins(0, 8, 10), play([0, 10 + left]), join(), check([1], [1]))
            self.assertEqual(told, [1, 1, paid, 1, 1, 1, 0, 1, 1, 1, paid, 2, fund, debt], left)

    def test_a_fund_that_may_not_be_filled(self):
        self.assertEqual(last(begins(), play([9]), join(), check([1])), [1, 1, 9, 1, 1, 1, 9, 2, 0, 0])

    def test_the_fund_is_filled_on_top_of_what_is_in_it(self):
        self.assertEqual(last(begins(limit=12), bring(5), play([9]), join(), check([1])), [1, 1, 2, 1, 1, 1, 2, 2, 12, 0])

    def test_without_sharers_the_rest_goes_into_the_fund_too(self):
        season = [begins(0, 5, 0), play([9, 20, 0], 1, 2)]
        self.assertEqual(last(*season, check([1])), [1, 1, 0, 1, 1, 0, 2, 6, 0])
        self.assertEqual(last(*season, check([1], [1])), [1, 1, 0, 1, 1, 0, 1, 1, 0, 2, 23, 0])
        self.assertEqual(last(*season, check([1], [1], [1]))[-3:], [2, 20, 0])

    def test_without_sharers_debt_is_paid_first(self):
        self.assertEqual(last(begins(0, 5, 10), play([4, 30]), check([1], [1]))[-3:], [2, 14, 0])
        self.assertEqual(last(begins(0, 5, 10), play([4, 12]), check([1], [1]))[-3:], [2, 0, 4])


class PennyByPenny(unittest.TestCase):
    def shares(self, parts, pennies):
        season = [begins(), play([pennies]), *[join(part) for part in parts]]
        return last(*season, check([1]))[6:-3]

    def test_each_goes_to_the_one_to_whom_most_is_owed(self):
        wanted = [[0, 0], [1, 0], [2, 0], [2, 1], [3, 1], [4, 1], [5, 1], [5, 2]]
        self.assertEqual([self.shares([3, 1], pennies) for pennies in range(8)], wanted)
        wanted = [[0, 0], [0, 1], [1, 1], [1, 2], [1, 3], [1, 4], [2, 4], [2, 5]]
        self.assertEqual([self.shares([1, 3], pennies) for pennies in range(8)], wanted)

    def test_of_several_as_much_it_goes_to_the_first(self):
        self.assertEqual(self.shares([2, 2, 2], 1), [1, 0, 0])
        self.assertEqual(self.shares([2, 2, 2], 5), [2, 2, 1])
        self.assertEqual(self.shares([1, 2, 2], 1), [0, 1, 0])

    def test_one_sharer_gets_all(self):
        self.assertEqual(self.shares([24], 100), [100])

    def test_what_was_paid_in_the_weeks_before_counts(self):
        season = [begins(), play([2]), join(3), join(1)]
        self.assertEqual(last(*season, check([1], [1], [1])), [
            1, 1, 6, 1, 1, 2, 2, 0, 1, 1, 2, 1, 1, 1, 1, 2, 2, 0, 2, 0, 0])

    def test_what_another_plan_paid_does_not_count(self):
        season = [begins(), play([2]), join(3), join(1)]
        told = ask(*season, check([1]), check([1]))
        self.assertEqual(told[-1], told[-2])
        self.assertEqual(told[-1], [1, 1, 2, 1, 1, 2, 2, 0, 2, 0, 0])


class WhatIsWrong(unittest.TestCase):
    def test_a_play_on_two_nights_running_that_may_not_be(self):
        season = [begins(crowds=[100, 100]), play(runs=0, most=2), play(runs=1, most=2)]
        self.assertEqual(last(*season, check([1, 1])), [0, 3, 0, 1, 1])
        self.assertEqual(last(*season, check([2, 2]))[0], 1)
        self.assertEqual(last(*season, check([1, 2]))[0], 1)
        self.assertEqual(last(*season, check([1, 0]))[0], 1)
        self.assertEqual(last(*season, check([0, 0]))[0], 1)

    def test_weeks_are_not_running_into_each_other(self):
        season = [begins(crowds=[100, 100]), play(runs=0, most=2), begins(), play(runs=0)]
        self.assertEqual(last(*season, check([1], [1]))[0], 1)
        self.assertEqual(last(*season[:2], check([0, 1], [1, 0]))[0], 1)

    def test_a_play_given_too_seldom(self):
        season = [begins(crowds=[100, 100]), play(most=2), play(least=1, most=2)]
        self.assertEqual(last(*season, check([1, 1])), [0, 3, 0, 2, 2])
        self.assertEqual(last(*season, check([0, 0])), [0, 3, 0, 2, 2])
        self.assertEqual(last(*season, check([1, 2]))[0], 1)
        self.assertEqual(last(*season, check([2, 2]))[0], 1)

    def test_a_play_given_too_often(self):
        season = [begins(crowds=[100, 100]), play(most=2), play(most=1), play(most=0)]
        self.assertEqual(last(*season, check([2, 2])), [0, 3, 0, 3, 2])
        self.assertEqual(last(*season, check([1, 3])), [0, 3, 0, 3, 3])
        self.assertEqual(last(*season, check([1, 2]))[0], 1)
        self.assertEqual(last(*season, check([1, 1]))[0], 1)

    def test_two_nights_running_are_told_ahead_of_the_rest(self):
        season = [begins(crowds=[100, 100]), play(least=1), play(runs=0, most=1)]
        self.assertEqual(last(*season, check([2, 2])), [0, 3, 0, 1, 1])

    def test_of_the_plays_the_first_is_told(self):
        seldom_first = [begins(crowds=[100, 100]), play(least=1), play(most=1)]
        self.assertEqual(last(*seldom_first, check([2, 2])), [0, 3, 0, 2, 1])
        often_first = [begins(crowds=[100, 100]), play(most=1), play(least=1)]
        self.assertEqual(last(*often_first, check([1, 1])), [0, 3, 0, 3, 1])

    def test_the_first_week_is_told(self):
        season = [begins(), play(least=1)]
        self.assertEqual(last(*season, check([1], [0], [0])), [0, 3, 1, 2, 1])
        self.assertEqual(last(*season, check([1], [1], [0])), [0, 3, 2, 2, 1])
        both = [begins(crowds=[100, 100]), play(least=1, most=2, runs=0)]
        self.assertEqual(last(*both, check([0, 0], [1, 1])), [0, 3, 0, 2, 1])


class Check(unittest.TestCase):
    season = [begins(1, 30, 2, [100, 50]), play([20, 30], 1, 2, 0, 0, 2), play([10]), join(3), join(2), bring(4)]

    def test_no_weeks(self):
        self.assertEqual(last(*self.season, check()), [1, 1, 0, 2, 4, 0])

    def test_three_weeks_are_the_most(self):
        self.assertEqual(last(*self.season, check([0, 0], [0, 0], [0, 0]))[0], 1)
        for weeks in range(4, 21):
            self.assertEqual(last(*self.season, check(*[[0, 0]] * weeks)), [-1], weeks)

    def test_a_number_for_each_night(self):
        for nights in range(21):
            wanted = 1 if nights == 2 else -1
            self.assertEqual(last(*self.season, check([0] * nights))[0], wanted, nights)
            self.assertEqual(last(*self.season, check([0, 0], [0] * nights))[0], wanted, nights)

    def test_a_play_that_there_is(self):
        for bill in [[0, 3], [3, 0], [GREATEST, 0], [1, GREATEST]]:
            self.assertEqual(last(*self.season, check(bill)), [-1], bill)
            self.assertEqual(last(*self.season, check([1, 2], bill)), [-1], bill)
        self.assertEqual(last(*self.season, check([1, 2]))[0], 1)

    def test_a_refusal_is_told_ahead_of_what_is_wrong(self):
        self.assertEqual(last(*self.season, check([1, 1]))[0], 0)
        self.assertEqual(last(*self.season, check([1, 1], [0])), [-1])
        self.assertEqual(last(*self.season, check([1, 1], [3, 0])), [-1])
        self.assertEqual(last(*self.season, check([1, 1], [0, 0], [0, 0], [0, 0])), [-1])

    def test_an_ordinary_plan(self):
        # Week 0: 20 + 5 - 3 - 3 = 19 fills the fund to 23. Week 1: 15 - 3 - 3 = 9: 7 into the fund, 2 are paid.
        # Week 2: 30 + 5 - 3 - 3 = 29 are paid; 31 in all go 19 to 12.
        self.assertEqual(last(*self.season, check([1, 2], [0, 1], [1, 2])), [
            1, 1, 31, 2, 1, 2, 2, 0, 0, 2, 0, 1, 2, 1, 1, 2, 1, 2, 2, 18, 11, 2, 30, 0])

    def test_changes_nothing(self):
        told = ask(*self.season, check([1, 2], [0, 1]), check([1, 1]), check([9, 9]), check([1, 2], [0, 1]), check())
        self.assertEqual(told[-2], told[6])
        self.assertEqual(told[-1], [1, 1, 0, 2, 4, 0])

    def test_a_debt_of_one_plan_is_not_there_in_the_next(self):
        told = ask(begins(wages=9), check([0], [0]), check())
        self.assertEqual(told[1:], [[1, 1, 0, 1, 0, 0, 1, 0, 0, 2, 0, 18], [1, 1, 0, 2, 0, 0]])


class Bring(unittest.TestCase):
    def test_answers_how_much_was_put_into_the_fund(self):
        told = ask(begins(limit=50), bring(0), bring(20), bring(29), bring(20), bring(1), check())
        self.assertEqual(told[1:], [[0], [20], [29], [1], [0], [1, 1, 0, 2, 50, 0]])

    def test_just_as_much_as_it_may_hold(self):
        self.assertEqual(ask(begins(limit=50), bring(50), bring(1))[1:], [[50], [0]])
        self.assertEqual(ask(begins(limit=50), bring(51))[1:], [[50]])

    def test_1000_is_the_most(self):
        told = ask(begins(limit=1000), bring(1001), bring(GREATEST), check(), bring(1000), check())
        self.assertEqual(told[1:], [[-1], [-1], [1, 1, 0, 2, 0, 0], [1000], [1, 1, 0, 2, 1000, 0]])

    def test_a_refusal_puts_nothing_in(self):
        self.assertEqual(ask(begins(limit=70), bring(5), bring(1001), bring(1000))[1:], [[5], [-1], [65]])

    def test_without_sharers_what_plans_leave_does_not_stay_in_the_fund(self):
        told = ask(begins(limit=5), play([50]), check([1]), bring(9))
        self.assertEqual(told[2:], [[1, 1, 0, 1, 1, 0, 2, 50, 0], [5]])
