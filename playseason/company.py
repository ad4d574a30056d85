"""A company's season: what is told of it, and what its plans of bills pay.

Plays are numbered from 1, as 0 on a bill is a dark house: play n stands at n - 1 in a list of plays.
"""

NOT_AS_TOLD = -1
NO_ROOM = -5
NO_RIGHT_PLAN = -6

MOST_NIGHTS = 2
MOST_OF_A_HUNDRED = 300
MOST_MONEY = 1000
MOST_PLAYS = 3
MOST_OF_A_PLAY = 100
MOST_BRINGS = 6
MOST_SHARERS = 5
MOST_PARTS = 24
MOST_WEEKS = 3

RUNS_THOUGH_IT_MAY_NOT = 1
TOO_SELDOM = 2
TOO_OFTEN = 3

BEGINS = 0
PLAY = 1
JOIN = 2
BEST = 3
PLAIN = 4
CHECK = 5


class Play:
    def __init__(self, setting, striking, may_run, least, most, brings):
        self.setting = setting
        self.striking = striking
        self.may_run = may_run
        self.least = least
        self.most = most
        self.brings = brings


class Company:
    def __init__(self):
        self.costs = 0
        self.fund_limit = 0
        self.wages = 0
        self.crowds = []
        self.fund = 0
        self.plays = []
        self.parts = []


# How things stand behind some weeks of a plan. What each sharer was paid is left out: it follows from
# what was paid out, so that it need be reckoned for the one plan alone that is answered.
class Standing:
    def __init__(self, given, fund, debt, bills, payouts):
        self.given = given
        self.fund = fund
        self.debt = debt
        self.bills = bills
        self.payouts = payouts


def opening(company):
    return Standing([0 for play in company.plays], company.fund, 0, [], [])


def wrong_with(plays, bill):
    for night in range(1, len(bill)):
        number = bill[night]
        if number > 0 and number == bill[night - 1] and plays[number - 1].may_run == 0:
            return [RUNS_THOUGH_IT_MAY_NOT, night]
    for number in range(1, len(plays) + 1):
        times = bill.count(number)
        if times < plays[number - 1].least:
            return [TOO_SELDOM, number]
        if times > plays[number - 1].most:
            return [TOO_OFTEN, number]
    return []


# The earliest bill stands first; best and plain rely on it to find the earliest of several.
def all_bills(company):
    bills = [[]]
    for night in range(len(company.crowds)):
        longer = []
        for bill in bills:
            for number in range(len(company.plays) + 1):
                longer.append(bill + [number])
        bills = longer
    return bills


def right_bills(company):
    return [bill for bill in all_bills(company) if wrong_with(company.plays, bill) == []]


def work_of(plays, bill):
    work = 0
    for night in range(len(bill)):
        number = bill[night]
        if number > 0:
            if night == 0 or bill[night - 1] != number:
                work += plays[number - 1].setting
            if night + 1 == len(bill) or bill[night + 1] != number:
                work += plays[number - 1].striking
    return work


def given_behind(given, bill):
    return [times + bill.count(number) for number, times in enumerate(given, start=1)]


def taken_by(company, given, bill):
    times = list(given)
    taken = 0
    for night in range(len(bill)):
        number = bill[night]
        if number > 0:
            brings = company.plays[number - 1].brings
            which = min(times[number - 1], len(brings) - 1)
            taken += brings[which] * company.crowds[night] // 100
            times[number - 1] += 1
    return taken


def leaves(company, given, bill):
    return taken_by(company, given, bill) - work_of(company.plays, bill)


# Gives back the fund, the debt and what is paid out. Only without sharers, where there is nobody to get
# the rest, may the fund get above its limit.
def settle(company, fund, debt, left):
    rest = left - company.wages - company.costs
    if rest < 0:
        helped = min(fund, -rest)
        return (fund - helped, debt - rest - helped, 0)
    repaid = min(debt, rest)
    rest -= repaid
    if company.parts == []:
        return (fund + rest, debt - repaid, 0)
    filled = min(company.fund_limit - fund, rest)
    return (fund + filled, debt - repaid, rest - filled)


def behind_week(company, standing, bill):
    left = leaves(company, standing.given, bill)
    settled = settle(company, standing.fund, standing.debt, left)
    given = given_behind(standing.given, bill)
    return Standing(given, settled[0], settled[1], standing.bills + [bill], standing.payouts + [settled[2]])


def behind_plan(company, plan):
    standing = opening(company)
    for bill in plan:
        standing = behind_week(company, standing, bill)
    return standing


# The earliest plan stands first, as the bills do.
def behind_all_plans(company, bills, weeks):
    standings = [opening(company)]
    for week in range(weeks):
        longer = []
        for standing in standings:
            for bill in bills:
                longer.append(behind_week(company, standing, bill))
        standings = longer
    return standings


def bill_that_leaves_most(company, given, bills):
    chosen = bills[0]
    most = leaves(company, given, chosen)
    for bill in bills:
        left = leaves(company, given, bill)
        if left > most:
            chosen = bill
            most = left
    return chosen


# What is owed is compared crosswise, as dividing would round it.
def most_owed(parts, paid):
    chosen = 0
    for sharer in range(1, len(parts)):
        if parts[sharer] * (2 * paid[chosen] + 1) > parts[chosen] * (2 * paid[sharer] + 1):
            chosen = sharer
    return chosen


def paid_behind(parts, paid, payout):
    behind = list(paid)
    for penny in range(payout):
        behind[most_owed(parts, behind)] += 1
    return behind


def with_length(row):
    return [len(row)] + row


def told_of_weeks(company, standing):
    told = []
    paid = [0 for sharer in company.parts]
    for bill, payout in zip(standing.bills, standing.payouts):
        behind = paid_behind(company.parts, paid, payout)
        told.extend(with_length(bill))
        told.extend(with_length([behind[sharer] - paid[sharer] for sharer in range(len(paid))]))
        paid = behind
    told.extend(with_length([standing.fund, standing.debt]))
    return told


def begins_as_told(costs, fund_limit, wages, crowds):
    if len(crowds) < 1 or len(crowds) > MOST_NIGHTS or max(crowds) > MOST_OF_A_HUNDRED:
        return False
    return max(costs, fund_limit, wages) <= MOST_MONEY


# The plays and the sharers go as well: a new season stands as at the beginning, but for what is told.
# Else a play might stay that may be given more often than a week now has nights.
def begin_season(company, costs, fund_limit, wages, crowds):
    if not begins_as_told(costs, fund_limit, wages, crowds):
        return [NOT_AS_TOLD]
    company.costs = costs
    company.fund_limit = fund_limit
    company.wages = wages
    company.crowds = crowds
    company.fund = 0
    company.plays = []
    company.parts = []
    return [len(crowds)]


def play_as_told(play, nights):
    if play.setting > MOST_OF_A_PLAY or play.striking > MOST_OF_A_PLAY or play.may_run > 1:
        return False
    if play.least > play.most or play.most > nights:
        return False
    return 1 <= len(play.brings) <= MOST_BRINGS and max(play.brings) <= MOST_OF_A_PLAY


def add_play(company, play):
    if not play_as_told(play, len(company.crowds)):
        return [NOT_AS_TOLD]
    if len(company.plays) == MOST_PLAYS:
        return [NO_ROOM]
    company.plays.append(play)
    return [len(company.plays)]


def join_company(company, parts):
    if parts < 1 or parts > MOST_PARTS:
        return [NOT_AS_TOLD]
    if len(company.parts) == MOST_SHARERS:
        return [NO_ROOM]
    company.parts.append(parts)
    return [len(company.parts) - 1]


def refusal_of_weeks(weeks, bills):
    if weeks < 1 or weeks > MOST_WEEKS:
        return [NOT_AS_TOLD]
    if bills == []:
        return [NO_RIGHT_PLAN]
    return []


def best_plan(company, weeks):
    bills = right_bills(company)
    refusal = refusal_of_weeks(weeks, bills)
    if refusal != []:
        return refusal
    standings = behind_all_plans(company, bills, weeks)
    pays = [sum(standing.payouts) for standing in standings]
    most = max(pays)
    earliest = standings[pays.index(most)]
    return [most] + with_length([pays.count(most)]) + told_of_weeks(company, earliest)


def plain_plan(company, weeks):
    bills = right_bills(company)
    refusal = refusal_of_weeks(weeks, bills)
    if refusal != []:
        return refusal
    standing = opening(company)
    for week in range(weeks):
        bill = bill_that_leaves_most(company, standing.given, bills)
        standing = behind_week(company, standing, bill)
    return [sum(standing.payouts)] + told_of_weeks(company, standing)


def plan_as_told(company, plan):
    if len(plan) > MOST_WEEKS:
        return False
    for bill in plan:
        if len(bill) != len(company.crowds) or max(bill, default=0) > len(company.plays):
            return False
    return True


def check_plan(company, plan):
    if not plan_as_told(company, plan):
        return [NOT_AS_TOLD]
    for week in range(len(plan)):
        wrong = wrong_with(company.plays, plan[week])
        if wrong != []:
            return [0] + with_length([week] + wrong)
    standing = behind_plan(company, plan)
    return [1] + with_length([sum(standing.payouts)]) + told_of_weeks(company, standing)


def put_into_fund(company, money):
    if money > MOST_MONEY:
        return [NOT_AS_TOLD]
    put = min(money, company.fund_limit - company.fund)
    company.fund += put
    return [put]


def row_at(call, place):
    return call[place + 1:place + 1 + call[place]]


def plan_in(call):
    plan = []
    place = 2
    for week in range(call[1]):
        plan.append(row_at(call, place))
        place += 1 + call[place]
    return plan


def answer(company, call):
    if call[0] == BEGINS:
        return begin_season(company, call[1], call[2], call[3], row_at(call, 4))
    if call[0] == PLAY:
        return add_play(company, Play(call[1], call[2], call[3], call[4], call[5], row_at(call, 6)))
    if call[0] == JOIN:
        return join_company(company, call[1])
    if call[0] == BEST:
        return best_plan(company, call[1])
    if call[0] == PLAIN:
        return plain_plan(company, call[1])
    if call[0] == CHECK:
        return check_plan(company, plan_in(call))
    return put_into_fund(company, call[1])


def answers(calls):
    company = Company()
    told = []
    place = 0
    while place < len(calls):
        told.extend(with_length(answer(company, row_at(calls, place + 1))))
        place += 2 + calls[place + 1]
    return told
