"""Point 2: play and join."""

import unittest

from tests.lines import GREATEST, ask, begins, best, check, join, last, play

TWO_NIGHTS = begins(crowds=[100, 100])


class Play(unittest.TestCase):
    def test_answers_numbers_from_1(self):
        self.assertEqual(ask(begins(), play(), play(), play())[1:], [[1], [2], [3]])

    def test_takes_the_least_and_the_greatest(self):
        self.assertEqual(last(TWO_NIGHTS, play([0], 0, 0, 0, 0, 0)), [1])
        self.assertEqual(last(TWO_NIGHTS, play([100] * 6, 100, 100, 1, 2, 2)), [1])

    def test_refuses_each_number_that_is_not_as_told(self):
        for wrong in [
            play(setting=101),
            play(setting=GREATEST),
            play(strike=101),
            play(strike=GREATEST),
            play(runs=2),
            play(runs=GREATEST),
            play(least=2, most=1),
            play(least=1, most=0),
            play(least=GREATEST, most=2),
            play(most=3),
            play(least=3, most=3),
            play(most=GREATEST),
            play([101]),
            play([0, 0, 0, 0, 0, 101]),
            play([GREATEST, 0]),
        ]:
            self.assertEqual(last(TWO_NIGHTS, wrong), [-1], wrong)

    def test_brings_1_to_6_numbers(self):
        for many in range(21):
            wanted = [1] if 1 <= many <= 6 else [-1]
            self.assertEqual(last(TWO_NIGHTS, play([1] * many)), wanted, many)

    def test_may_be_given_no_more_often_than_there_are_nights(self):
        self.assertEqual(ask(play(most=0), play(most=1)), [[1], [-1]])
        self.assertEqual(ask(begins(), play(most=1), play(most=2))[1:], [[1], [-1]])
        self.assertEqual(ask(TWO_NIGHTS, play(most=2), play(most=3))[1:], [[1], [-1]])

    def test_there_are_3_at_the_most(self):
        self.assertEqual(last(begins(), play(), play(), play(), play()), [-5])

    def test_of_two_refusals_the_first_is_told(self):
        self.assertEqual(last(begins(), play(), play(), play(), play([])), [-1])
        self.assertEqual(last(begins(), play(), play(), play(), play(setting=101)), [-1])

    def test_a_refusal_leaves_all_as_it_was(self):
        told = ask(begins(), play(), play([]), play(), play(most=2), play(), play(), best(1))
        self.assertEqual(told[1:-1], [[1], [-1], [2], [-1], [3], [-5]])
        self.assertEqual(told[-1], last(begins(), play(), play(), play(), best(1)))

    def test_what_was_told_of_one_play_is_not_told_of_another(self):
        season = [begins(), play([10], 1, 2), play([20], 3, 4), join()]
        self.assertEqual(last(*season, check([1])), [1, 1, 7, 1, 1, 1, 7, 2, 0, 0])
        self.assertEqual(last(*season, check([2])), [1, 1, 13, 1, 2, 1, 13, 2, 0, 0])


class Join(unittest.TestCase):
    def test_answers_numbers_from_0(self):
        self.assertEqual(ask(*[join()] * 5), [[0], [1], [2], [3], [4]])

    def test_takes_1_to_24_parts(self):
        for parts in range(30):
            wanted = [0] if 1 <= parts <= 24 else [-1]
            self.assertEqual(last(join(parts)), wanted, parts)
        self.assertEqual(last(join(GREATEST)), [-1])

    def test_there_are_5_at_the_most(self):
        self.assertEqual(ask(*[join(24)] * 6)[-1], [-5])

    def test_of_two_refusals_the_first_is_told(self):
        self.assertEqual(ask(*[join()] * 5, join(0), join(25))[-2:], [[-1], [-1]])

    def test_a_refusal_leaves_all_as_it_was(self):
        told = ask(begins(), play([7]), join(0), join(2), join(25), join(5), check([1]))
        self.assertEqual(told[2:6], [[-1], [0], [-1], [1]])
        self.assertEqual(told[-1], last(begins(), play([7]), join(2), join(5), check([1])))
        full = [begins(), play([7]), *[join()] * 5]
        self.assertEqual(last(*full, join(), check([1])), last(*full, check([1])))
