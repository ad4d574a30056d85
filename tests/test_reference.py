"""Holds the program against the document's words written down a second time, over many lines."""

import itertools
import random
import unittest
from fractions import Fraction

from tests.lines import GREATEST, ask, begins, best, bring, check, join, plain, play


class Reference:
    """Follows the words one by one, with fractions, and never looks ahead."""

    def __init__(self):
        self.new(0, 0, 0, [])

    def new(self, costs, limit, wages, crowds):
        self.costs, self.limit, self.wages, self.crowds = costs, limit, wages, crowds
        self.plays, self.sharers, self.fund = {}, [], 0

    def wrong(self, bill):
        for night, (before, now) in enumerate(zip(bill, bill[1:]), start=1):
            if before == now and now and not self.plays[now]["runs"]:
                return [1, night]
        for number, told in self.plays.items():
            times = sum(1 for given in bill if given == number)
            if times < told["least"]:
                return [2, number]
            if times > told["most"]:
                return [3, number]
        return None

    def takes(self, earlier, bill):
        taken = 0
        for night, number in enumerate(bill):
            if number:
                before = (earlier + list(bill[:night])).count(number)
                brings = self.plays[number]["brings"]
                brings = brings + [brings[-1]] * 10
                taken += int(Fraction(brings[before] * self.crowds[night], 100))
        return taken

    def work(self, bill):
        cost = 0
        for number, nights in itertools.groupby(bill):
            if number:
                cost += self.plays[number]["set"] + self.plays[number]["strike"]
        return cost

    def follow(self, plan):
        fund, debt, earlier, lists = self.fund, 0, [], []
        paid = [0] * len(self.sharers)
        for bill in plan:
            money = self.takes(earlier, bill)
            due = self.wages + self.costs + self.work(bill)
            earlier += list(bill)
            gets = [0] * len(self.sharers)
            while money < due and fund:
                money, fund = money + 1, fund - 1
            if money < due:
                debt, money = debt + due - money, due
            left = money - due
            while left and debt:
                left, debt = left - 1, debt - 1
            while left and fund < self.limit:
                left, fund = left - 1, fund + 1
            if not self.sharers:
                left, fund = 0, fund + left
            for penny in range(left):
                owed = [Fraction(parts, 2 * had + 1) for parts, had in zip(self.sharers, paid)]
                who = owed.index(max(owed))
                paid[who] += 1
                gets[who] += 1
            lists += [len(bill), *bill, len(gets), *gets]
        return sum(paid), lists + [2, fund, debt]

    def bills(self):
        every = itertools.product(range(len(self.plays) + 1), repeat=len(self.crowds))
        return [list(bill) for bill in every if self.wrong(list(bill)) is None]

    def answer_begins(self, costs, limit, wages, crowds):
        if len(crowds) not in (1, 2) or any(crowd > 300 for crowd in crowds):
            return [-1]
        if any(number > 1000 for number in (costs, limit, wages)):
            return [-1]
        self.new(costs, limit, wages, list(crowds))
        return [len(crowds)]

    def answer_play(self, brings, setting, strike, runs, least, most):
        if any(number > 100 for number in [setting, strike, *brings]) or runs not in (0, 1):
            return [-1]
        if not least <= most <= len(self.crowds) or len(brings) not in range(1, 7):
            return [-1]
        if len(self.plays) == 3:
            return [-5]
        told = {"set": setting, "strike": strike, "runs": runs, "least": least, "most": most, "brings": list(brings)}
        self.plays[len(self.plays) + 1] = told
        return [len(self.plays)]

    def answer_join(self, parts):
        if parts not in range(1, 25):
            return [-1]
        if len(self.sharers) == 5:
            return [-5]
        self.sharers.append(parts)
        return [len(self.sharers) - 1]

    def answer_best(self, weeks):
        if weeks not in (1, 2, 3):
            return [-1]
        plans = [list(plan) for plan in itertools.product(self.bills(), repeat=weeks)]
        if not plans:
            return [-6]
        pays = [self.follow(plan)[0] for plan in plans]
        chosen = min(plan for plan, paid in zip(plans, pays) if paid == max(pays))
        return [max(pays), 1, pays.count(max(pays)), *self.follow(chosen)[1]]

    def answer_plain(self, weeks):
        if weeks not in (1, 2, 3):
            return [-1]
        if not self.bills():
            return [-6]
        plan, earlier = [], []
        for week in range(weeks):
            left = [(self.work(bill) - self.takes(earlier, bill), bill) for bill in self.bills()]
            plan.append(min(left)[1])
            earlier = earlier + plan[-1]
        paid, lists = self.follow(plan)
        return [paid, *lists]

    def answer_check(self, *plan):
        if len(plan) > 3 or any(len(bill) != len(self.crowds) for bill in plan):
            return [-1]
        if any(number not in self.plays for bill in plan for number in bill if number):
            return [-1]
        for week, bill in enumerate(plan):
            wrong = self.wrong(bill)
            if wrong:
                return [0, 3, week, *wrong]
        paid, lists = self.follow(plan)
        return [1, 1, paid, *lists]

    def answer_bring(self, money):
        if money > 1000:
            return [-1]
        before = self.fund
        self.fund = min(self.limit, before + money)
        return [self.fund - before]


class Lines:
    """Makes lines of calls; most numbers are small, so that pays are often as much as one another."""

    def __init__(self, seed):
        self.dice = random.Random(seed)
        self.nights = 0
        self.plays = 0

    def number(self, most):
        throw = self.dice.random()
        if throw < 0.05:
            return most
        if throw < 0.06:
            return most + 1
        if throw < 0.065:
            return GREATEST
        if throw < 0.4:
            return min(most, self.dice.randrange(4))
        return self.dice.randrange(most + 1)

    def begins(self):
        nights = self.dice.choice([1, 2, 2, 2, 2, 2]) if self.dice.random() < 0.95 else self.dice.randrange(21)
        crowds = [self.dice.choice([50, 100, self.number(300), self.number(300)]) for night in range(nights)]
        if nights in (1, 2) and max(crowds) <= 300:
            self.nights, self.plays = nights, 0
        money = [self.number(self.dice.choice(caps)) for caps in [[5, 20, 60], [0, 30, 1000], [5, 20, 60]]]
        return begins, (*money, crowds)

    def play(self):
        many = self.dice.randrange(1, 7) if self.dice.random() < 0.97 else self.dice.randrange(21)
        most = self.dice.choice([self.nights, self.nights, self.number(self.nights)])
        least = self.dice.choice([0, 0, self.number(1)])
        costs = [self.number(self.dice.choice([2, 8, 8, 30, 100])) for which in range(2)]
        runs = self.dice.choice([0, 1]) if self.dice.random() < 0.97 else 2
        self.plays += 1
        return play, ([self.number(100) for which in range(many)], *costs, runs, least, most)

    def check(self):
        weeks = self.dice.randrange(4) if self.dice.random() < 0.97 else self.dice.randrange(21)
        nights = [self.nights if self.dice.random() < 0.98 else self.dice.randrange(21) for week in range(weeks)]
        return check, [[self.dice.randrange(min(self.plays, 3) + 1) for night in range(many)] for many in nights]

    def line(self, calls, most_weeks):
        made = [self.begins(), self.play(), self.play(), (join, [self.number(24)]), (join, [self.number(24)])]
        while len(made) < calls:
            made.append(self.dice.choice([
                self.play,
                lambda: (join, [self.number(24)]),
                lambda: (best, [self.number(most_weeks)]),
                lambda: (best, [most_weeks]),
                lambda: (plain, [self.number(3)]),
                self.check,
                self.check,
                lambda: (bring, [self.number(self.dice.choice([20, 1000]))]),
                lambda: self.begins() if self.dice.random() < 0.3 else (plain, [3]),
            ])())
        if self.dice.random() < 0.05:
            self.dice.shuffle(made)
        return made


class AgainstReference(unittest.TestCase):
    def compare(self, seed, calls, most_weeks):
        made = Lines(seed).line(calls, most_weeks)
        reference = Reference()
        wanted = [getattr(reference, "answer_" + call.__name__)(*told) for call, told in made]
        told = ask(*[call(*told) for call, told in made])
        for which, call in enumerate(made):
            self.assertEqual(told[which], wanted[which], (seed, which, call[0].__name__, call[1]))

    def test_lines_of_two_weeks(self):
        for seed in range(250):
            self.compare(seed, 20, 2)

    def test_lines_of_three_weeks(self):
        for seed in range(1000, 1012):
            self.compare(seed, 11, 3)

    def test_the_longest_lines(self):
        for seed in range(2000, 2010):
            self.compare(seed, 40, 1)
