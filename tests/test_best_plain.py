"""Point 3: best and plain."""

import itertools
import unittest

from tests.lines import GREATEST, ask, begins, best, bring, check, join, last, plain, play


class WeeksThatAreRefused(unittest.TestCase):
    def test_1_to_3_weeks(self):
        for call in [best, plain]:
            for weeks in [0, 4, 5, 20, GREATEST]:
                self.assertEqual(last(begins(), play(), join(), call(weeks)), [-1], weeks)
            for weeks in [1, 2, 3]:
                self.assertEqual(last(begins(), play(), join(), call(weeks))[0], 10 * weeks)

    def test_no_plan_is_right(self):
        for season in [
            [begins(), play(least=1), play(least=1)],
            [begins(crowds=[100, 100]), play(runs=0, least=2, most=2)],
            [begins(crowds=[100, 100]), play(least=1), play(least=1), play(least=1)],
            [begins(crowds=[100, 100]), play(least=2, most=2), play(least=1)],
        ]:
            for weeks in [1, 2, 3]:
                self.assertEqual(last(*season, best(weeks)), [-6])
                self.assertEqual(last(*season, plain(weeks)), [-6])

    def test_of_two_refusals_the_first_is_told(self):
        season = [begins(), play(least=1), play(least=1)]
        self.assertEqual(ask(*season, best(0), best(4), plain(0), plain(4))[-4:], [[-1]] * 4)

    def test_a_refusal_leaves_all_as_it_was(self):
        season = [begins(2, 9, 3), play([30, 20], least=1), join(2), join(3), bring(4)]
        wanted = ask(*season, best(2), plain(3))[-2:]
        self.assertEqual(ask(*season, best(0), plain(4), best(2), plain(3))[-2:], wanted)
        told = ask(*season, play(least=1), best(1), plain(1), check([1]), bring(9))
        self.assertEqual(told[-4:], [[-6], [-6], [0, 3, 0, 2, 2], [5]])


class Best(unittest.TestCase):
    def test_one_week_of_one_night(self):
        self.assertEqual(last(begins(), play([10]), join(), best(1)), [10, 1, 1, 1, 1, 1, 10, 2, 0, 0])

    def test_what_is_talked_of_draws_the_second_time(self):
        season = [begins(), play([6, 20]), play([10]), join()]
        self.assertEqual(last(*season, best(2)), [26, 1, 1, 1, 1, 1, 6, 1, 1, 1, 20, 2, 0, 0])
        self.assertEqual(last(*season, plain(2)), [20, 1, 2, 1, 10, 1, 2, 1, 10, 2, 0, 0])

    def test_of_several_that_pay_as_much_the_earliest(self):
        season = [begins(), play([10]), play([10]), join()]
        self.assertEqual(last(*season, best(2)), [20, 1, 4, 1, 1, 1, 10, 1, 1, 1, 10, 2, 0, 0])
        worn = [begins(), play([10, 1]), play([10, 1]), join()]
        self.assertEqual(last(*worn, best(2)), [20, 1, 2, 1, 1, 1, 10, 1, 2, 1, 10, 2, 0, 0])

    def test_the_first_night_tells_which_is_earlier(self):
        season = [begins(crowds=[100, 100]), play([7], least=1), play([9]), join()]
        self.assertEqual(last(*season, best(1)), [16, 1, 2, 2, 1, 2, 1, 16, 2, 0, 0])
        spread = [begins(crowds=[100, 100]), play([7]), join()]
        self.assertEqual(last(*spread, best(1)), [7, 1, 2, 2, 0, 1, 1, 7, 2, 0, 0])

    def test_a_dark_house_is_earlier_than_a_play_that_leaves_nothing(self):
        self.assertEqual(last(begins(), play([7], 3, 4), join(), best(1)), [0, 1, 2, 1, 0, 1, 0, 2, 0, 0])

    def test_plans_that_are_not_right_do_not_count(self):
        season = [begins(crowds=[100, 100]), play([9], runs=0, most=2), play([1], least=1), join()]
        self.assertEqual(last(*season, best(1)), [10, 1, 2, 2, 1, 2, 1, 10, 2, 0, 0])
        self.assertEqual(last(*season, best(3))[:3], [30, 1, 8])

    def test_nothing_is_paid_while_the_fund_is_filled(self):
        self.assertEqual(last(begins(limit=1000), play([50]), join(), best(3)), [
            0, 1, 8, 1, 0, 1, 0, 1, 0, 1, 0, 1, 0, 1, 0, 2, 0, 0])

    def test_what_is_in_the_fund_need_not_be_filled_in(self):
        season = [begins(limit=60), play([50]), join()]
        self.assertEqual(last(*season, best(1))[0], 0)
        self.assertEqual(last(*season, bring(55), best(1)), [45, 1, 1, 1, 1, 1, 45, 2, 60, 0])

    def test_through_a_debt(self):
        season = [begins(30, 0, 20), play([40, 80]), join()]
        self.assertEqual(last(*season, best(2)), [20, 1, 1, 1, 1, 1, 0, 1, 1, 1, 20, 2, 0, 0])

    def test_a_debt_that_stays(self):
        season = [begins(30, 0, 20), play([40]), join()]
        self.assertEqual(last(*season, best(2)), [0, 1, 4, 1, 0, 1, 0, 1, 0, 1, 0, 2, 0, 100])

    def test_a_week_of_debt_may_pay_more_in_the_end(self):
        # Darkness leaves more than the first nights of the play, but pays nothing.
        season = [begins(), play([10, 10, 90], 10, 10), join()]
        self.assertEqual(last(*season, best(3)), [50, 1, 1, 1, 1, 1, 0, 1, 1, 1, 0, 1, 1, 1, 50, 2, 0, 0])
        self.assertEqual(last(*season, plain(3))[0], 0)

    def test_without_sharers_each_right_plan_pays_nothing(self):
        season = [begins(), play([10]), play([20])]
        self.assertEqual(last(*season, best(2)), [0, 1, 9, 1, 0, 0, 1, 0, 0, 2, 0, 0])
        must = [begins(), play([10], least=1)]
        self.assertEqual(last(*must, best(2)), [0, 1, 1, 1, 1, 0, 1, 1, 0, 2, 20, 0])

    def test_without_plays_the_house_is_dark(self):
        self.assertEqual(last(begins(1, 5, 2, [300, 300]), join(), bring(5), best(2)), [
            0, 1, 1, 2, 0, 0, 1, 0, 2, 0, 0, 1, 0, 2, 0, 1])

    def test_each_sharer_gets_a_share_week_by_week(self):
        season = [begins(), play([2]), join(3), join(1)]
        self.assertEqual(last(*season, best(3)), [
            6, 1, 1, 1, 1, 2, 2, 0, 1, 1, 2, 1, 1, 1, 1, 2, 2, 0, 2, 0, 0])

    def test_what_it_tells_is_what_check_tells_of_the_plan(self):
        season = [begins(5, 20, 7, [120, 80]), play([20, 30, 5], 2, 1, 0, 0, 2), play([24, 9], 1, 1), join(3), join(4)]
        told = last(*season, best(3))
        plan = [told[3:][place + 1:place + 3] for place in [0, 6, 12]]
        self.assertEqual(last(*season, check(*plan)), [1, 1, told[0], *told[3:]])

    def test_changes_nothing(self):
        season = [begins(5, 90, 7), play([20, 30]), join(3), bring(11)]
        told = ask(*season, best(3), best(3), plain(3), plain(3), check(), bring(1000))
        self.assertEqual(told[4], told[5])
        self.assertEqual(told[6], told[7])
        self.assertEqual(told[-2:], [[1, 1, 0, 2, 11, 0], [79]])


class Plain(unittest.TestCase):
    def test_one_week_of_one_night(self):
        self.assertEqual(last(begins(), play([10]), join(), plain(1)), [10, 1, 1, 1, 10, 2, 0, 0])

    def test_by_what_was_given_in_the_weeks_before(self):
        season = [begins(), play([10, 1, 30]), play([8, 5]), join()]
        self.assertEqual(last(*season, plain(3)), [
            23, 1, 1, 1, 10, 1, 2, 1, 8, 1, 2, 1, 5, 2, 0, 0])

    def test_of_several_bills_the_earliest(self):
        season = [begins(crowds=[100, 100]), play([9]), play([9]), join()]
        self.assertEqual(last(*season, plain(1)), [18, 2, 1, 2, 1, 18, 2, 0, 0])
        self.assertEqual(last(begins(), play([7], 3, 4), join(), plain(1)), [0, 1, 0, 1, 0, 2, 0, 0])

    def test_work_is_taken_off(self):
        season = [begins(), play([50], 20, 20), play([12]), join()]
        self.assertEqual(last(*season, plain(1)), [12, 1, 2, 1, 12, 2, 0, 0])
        self.assertEqual(last(begins(), play([50], 30, 30), join(), plain(1)), [0, 1, 0, 1, 0, 2, 0, 0])

    def test_a_right_bill_though_it_leaves_less_than_nothing(self):
        season = [begins(), play([5], 10, 20, least=1), join()]
        self.assertEqual(last(*season, plain(2)), [0, 1, 1, 1, 0, 1, 1, 1, 0, 2, 0, 50])

    def test_the_bill_that_leaves_most_though_nothing_is_paid(self):
        season = [begins(limit=1000), play([5]), join(), bring(30)]
        self.assertEqual(last(*season, plain(2)), [0, 1, 1, 1, 0, 1, 1, 1, 0, 2, 40, 0])
        self.assertEqual(last(begins(wages=9), play([5]), plain(2)), [0, 1, 1, 0, 1, 1, 0, 2, 0, 8])

    def test_bills_that_are_not_right_are_passed_over(self):
        season = [begins(crowds=[100, 100]), play([90], runs=0, most=2), play([1], most=2), join()]
        self.assertEqual(last(*season, plain(1)), [91, 2, 1, 2, 1, 91, 2, 0, 0])


class NoPlanPaysMore(unittest.TestCase):
    seasons = [
        [begins(5, 20, 7, [120, 80]), play([20, 30, 5], 2, 1, 0, 0, 2), play([24, 9], 1, 1, 1, 1, 1), join(3), join(4)],
        [begins(0, 10, 30, [70, 130]), play([10, 60], 3, 3, 1, 0, 2), play([40, 20, 10], most=2), join(1), bring(6)],
        [begins(9, 0, 9, [100]), play([5, 50, 5]), play([30, 10]), play([20]), *[join(7)] * 5],
    ]

    def test_than_best_and_so_many_pay_as_much(self):
        for season in self.seasons:
            plays = len([call for call in season if call[0] == 1])
            bills = list(itertools.product(range(plays + 1), repeat=season[0][4]))
            for weeks in [1, 2]:
                told = last(*season, best(weeks))
                pays = []
                for plan in itertools.product(bills, repeat=weeks):
                    checked = last(*season, check(*plan))
                    if checked[0] == 1:
                        pays.append(checked[2])
                self.assertEqual(told[0], max(pays))
                self.assertEqual(told[1:3], [1, pays.count(max(pays))])

    def test_where_nothing_wears_out_one_week_at_a_time_pays_as_much(self):
        for costs, limit, brought in [(0, 0, 0), (60, 20, 5), (20, 30, 0)]:
            for first, second in [([20], [30]), ([25, 25, 25], [10]), ([40, 40], [40])]:
                season = [begins(costs, limit, 10, [120, 70]), bring(brought), play(first, 3, 4, 1, 0, 2),
                          play(second, 1, 9, 0, 1, 2), join(5), join(2)]
                for weeks in [1, 2, 3]:
                    told = ask(*season, best(weeks), plain(weeks))
                    self.assertEqual(told[-1][0], told[-2][0])
