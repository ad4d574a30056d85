"""Point 1: begins."""

import unittest

from tests.lines import GREATEST, ask, begins, best, bring, check, join, last, play


class Begins(unittest.TestCase):
    def test_answers_how_many_nights(self):
        self.assertEqual(last(begins(crowds=[100])), [1])
        self.assertEqual(last(begins(crowds=[100, 50])), [2])

    def test_takes_the_least_and_the_greatest(self):
        self.assertEqual(last(begins(0, 0, 0, [0])), [1])
        self.assertEqual(last(begins(1000, 1000, 1000, [300, 300])), [2])

    def test_refuses_each_other_count_of_nights(self):
        for nights in [0, *range(3, 21)]:
            self.assertEqual(last(begins(crowds=[100] * nights)), [-1], nights)

    def test_refuses_more_than_300_of_a_hundred(self):
        for crowds in [[301], [301, 0], [0, 301], [GREATEST, 0], [0, GREATEST]]:
            self.assertEqual(last(begins(crowds=crowds)), [-1], crowds)

    def test_refuses_another_number_above_1000(self):
        for number in [1001, GREATEST]:
            self.assertEqual(last(begins(costs=number)), [-1])
            self.assertEqual(last(begins(limit=number)), [-1])
            self.assertEqual(last(begins(wages=number)), [-1])

    def test_costs_and_wages_are_both_held_against_what_was_taken(self):
        self.assertEqual(last(begins(costs=7, wages=20), check([0])), [1, 1, 0, 1, 0, 0, 2, 0, 27])

    def test_a_refusal_leaves_all_as_it_was(self):
        season = [begins(3, 40, 5, [100, 50]), play([30], 1, 2, 1, 0, 2), join(2), bring(9)]
        asked = [best(2), check([1, 1]), bring(1000)]
        wanted = ask(*season, *asked)[-3:]
        for wrong in [
            begins(crowds=[]),
            begins(crowds=[1, 2, 3]),
            begins(crowds=[301]),
            begins(costs=1001),
            begins(limit=1001),
            begins(wages=1001),
        ]:
            told = ask(*season, wrong, *asked)
            self.assertEqual(told[4], [-1])
            self.assertEqual(told[-3:], wanted)

    def test_the_fund_is_empty_again(self):
        told = ask(begins(limit=50), bring(30), begins(limit=40), check(), bring(1000))
        self.assertEqual(told, [[1], [30], [1], [1, 1, 0, 2, 0, 0], [40]])

    def test_a_new_season_has_no_plays_and_no_sharers(self):
        told = ask(begins(crowds=[100, 100]), play([9], most=2), join(3), begins(), check([1]), check([0]), play(), join())
        self.assertEqual(told[4:], [[-1], [1, 1, 0, 1, 0, 0, 2, 0, 0], [1], [0]])

    def test_a_new_season_has_its_own_nights_costs_and_wages(self):
        told = ask(begins(1, 2, 3, [100, 100]), begins(0, 0, 9, [50]), play([100]), join(), check([1]))
        self.assertEqual(told[-1], [1, 1, 41, 1, 1, 1, 41, 2, 0, 0])


class AtTheBeginning(unittest.TestCase):
    def test_there_are_no_nights_and_nothing_is_owed(self):
        self.assertEqual(last(best(1)), [0, 1, 1, 0, 0, 2, 0, 0])
        self.assertEqual(last([4, 3]), [0, 0, 0, 0, 0, 0, 0, 2, 0, 0])
        self.assertEqual(last(check([])), [1, 1, 0, 0, 0, 2, 0, 0])
        self.assertEqual(last(check([0])), [-1])

    def test_the_fund_may_not_be_filled(self):
        self.assertEqual(ask(bring(0), bring(1), bring(1000), check()), [[0], [0], [0], [1, 1, 0, 2, 0, 0]])

    def test_there_are_no_plays_and_no_sharers(self):
        self.assertEqual(ask(play(most=0), join()), [[1], [0]])
