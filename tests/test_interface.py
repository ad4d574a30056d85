"""What is handed in and given back, and the greatest inputs that may be handed in."""

import io
import contextlib
import time
import unittest

from playseason.company import answers
from tests.lines import GREATEST, apart, ask, begins, best, bring, check, join, last, line, plain, play

EVERY_CALL = [
    begins(5, 20, 7, [120, 80]),
    play([20, 30, 5], 2, 1, 0, 0, 2),
    play([24, 9], 1, 1),
    join(3),
    join(4),
    bring(6),
    best(2),
    plain(2),
    check([1, 2], [2, 0]),
    check([1, 1]),
    check([9, 9]),
]
GREATEST_SEASON = [
    begins(0, 10, 0, [300, 300]),
    *[play([100, 99, 98, 97, 96, 95], 1, 1, 1, 0, 2) for number in range(3)],
    *[join(24 - sharer) for sharer in range(5)],
]


class WhatIsHandedIn(unittest.TestCase):
    def test_is_as_it_was(self):
        calls = line(*EVERY_CALL)
        answers(calls)
        self.assertEqual(calls, line(*EVERY_CALL))

    def test_is_not_changed_for_a_while_either(self):
        class Watched(list):
            def refuse(self, *told):
                raise AssertionError("changed")
            append = extend = insert = pop = remove = clear = sort = reverse = refuse
            __setitem__ = __delitem__ = __iadd__ = __imul__ = refuse

        self.assertEqual(answers(Watched(line(*EVERY_CALL))), answers(line(*EVERY_CALL)))

    def test_asked_twice_gives_the_same(self):
        calls = line(*EVERY_CALL)
        first = answers(calls)
        answers(line(begins(limit=9), play(), join(), bring(3)))
        self.assertEqual(answers(calls), first)

    def test_nothing_is_kept_from_one_time_to_the_next(self):
        answers(line(begins(1, 50, 1, [100, 100]), play(), join(), bring(9)))
        self.assertEqual(answers(line(check(), play(most=0), join())), [6, 1, 1, 0, 2, 0, 0, 1, 1, 1, 0])

    def test_changing_what_was_given_back_changes_nothing(self):
        calls = line(*EVERY_CALL)
        first = answers(calls)
        kept = list(first)
        first.clear()
        self.assertEqual(answers(calls), kept)


class WhatIsGivenBack(unittest.TestCase):
    def test_counts_stand_ahead_of_the_answers(self):
        calls = [0, 7, 0, 0, 0, 0, 2, 100, 50, 0, 8, 1, 1, 2, 1, 0, 2, 1, 10, 0, 2, 2, 1, 0, 2, 6, 1001]
        calls += [0, 2, 3, 1, 0, 2, 4, 1, 0, 5, 5, 1, 2, 1, 1, 0, 2, 3, 0]
        wanted = [1, 2, 1, 1, 1, 0, 1, -1]
        wanted += [11, 12, 1, 1, 2, 1, 1, 1, 12, 2, 0, 0]
        wanted += [9, 12, 2, 1, 1, 1, 12, 2, 0, 0]
        wanted += [11, 1, 1, 12, 2, 1, 1, 1, 12, 2, 0, 0, 1, -1]
        self.assertEqual(answers(calls), wanted)

    def test_is_a_list_of_whole_numbers(self):
        told = answers(line(*EVERY_CALL))
        self.assertIs(type(told), list)
        self.assertEqual({type(number) for number in told}, {int})

    def test_lists_without_sharers_and_without_nights(self):
        self.assertEqual(last(begins(), plain(1)), [0, 1, 0, 0, 2, 0, 0])
        self.assertEqual(last(join(), join(), best(2)), [0, 1, 1, 0, 2, 0, 0, 0, 2, 0, 0, 2, 0, 0])

    def test_nothing_is_printed(self):
        out = io.StringIO()
        with contextlib.redirect_stdout(out), contextlib.redirect_stderr(out):
            answers(line(*EVERY_CALL))
        self.assertEqual(out.getvalue(), "")

    def test_one_call_alone(self):
        wanted = [[2], [-1], [0], [0, 1, 1, 0, 0, 2, 0, 0], [0, 0, 0, 2, 0, 0], [1, 1, 0, 2, 0, 0], [0]]
        calls = [begins(crowds=[1, 2]), play(), join(), best(1), plain(1), check(), bring(5)]
        self.assertEqual([last(call) for call in calls], wanted)


class TheGreatest(unittest.TestCase):
    def test_as_many_calls_of_best_as_there_may_be(self):
        calls = [*GREATEST_SEASON, *[best(3)] * 31]
        self.assertEqual(len(calls), 40)
        started = time.process_time()
        told = ask(*calls)
        self.assertLess(time.process_time() - started, 30)
        self.assertEqual(told[9:], [told[9]] * 31)
        # Each play twice, 297 and 300 less its work, 10 into the fund.
        self.assertEqual(told[9][0], 3 * (300 + 297 - 2) - 10)
        self.assertEqual(told[9][1:3], [1, 6])
        self.assertEqual(told[9][3:6] + told[9][12:15] + told[9][21:24], [2, 1, 1, 2, 2, 2, 2, 3, 3])
        self.assertEqual(told[9][-3:], [2, 10, 0])

    def test_each_plan_pays_as_much(self):
        told = last(begins(0, 0, 0, [300, 300]), *[play([0], most=2)] * 3, *[join(24)] * 5, best(3))
        self.assertEqual(told[:3], [0, 1, 4096])

    def test_the_most_that_may_be_paid(self):
        season = [begins(0, 0, 0, [300, 300]), play([100], most=2), join(24), *[join(1)] * 4]
        told = ask(*season, best(3), plain(3), check([1, 1], [1, 1], [1, 1]))[-3:]
        self.assertEqual([told[0][0], told[1][0], told[2][2]], [1800, 1800, 1800])
        self.assertEqual(told[0][3:], told[1][1:])
        self.assertEqual(told[0][3:], told[2][3:])

    def test_the_most_that_may_be_owed(self):
        season = [begins(1000, 1000, 1000, [0, 0]), *[play([0], 100, 100, most=2)] * 2, join()]
        told = last(*season, bring(1000), check([1, 2], [2, 1], [1, 2]))
        self.assertEqual(told[-3:], [2, 0, 3 * 2400 - 1000])

    def test_the_longest_lists_and_the_greatest_numbers(self):
        longest = [GREATEST] * 20
        calls = [
            [0, GREATEST, GREATEST, GREATEST, 20, *longest],
            [1, GREATEST, GREATEST, GREATEST, GREATEST, GREATEST, 20, *longest],
            join(GREATEST),
            best(GREATEST),
            plain(GREATEST),
            check(*[longest] * 20),
            bring(GREATEST),
        ]
        self.assertEqual(ask(*calls), [[-1]] * 7)
        self.assertEqual(ask(*EVERY_CALL, *calls)[-7:], [[-1]] * 7)

    def test_forty_of_the_longest_calls(self):
        calls = line(*[check(*[[0] * 20] * 20)] * 40)
        self.assertEqual(apart(answers(calls)), [[-1]] * 40)
