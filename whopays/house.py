"""The calls on one house, and their answers."""

from whopays.payments import greatest_payments, greatest_payments_if_safe, least_payments
from whopays.sheet import Sheet, all_paid, lack, left_unpaid, lost_in_falling, sheet_without, surplus
from whopays.whole import lowest

MOST_PARTIES = 8

BEGINS = 0
OWN = 1
OWES = 2
CLEAR = 3
LEAST = 4
PAYS = 5
NEED = 6
NEEDS = 7
WITHOUT = 8

# How many numbers are handed over with each call, by the call's number.
HANDED_OVER = (5, 3, 4, 0, 0, 1, 1, 0, 1, 0)

NOT_ALLOWED = -1
NO_SUCH_PARTY = -2
ALL_PAID_IS_KEPT = -6


class House:
    """The parties, what each has of its own and owes each other, and what is kept; fractions are tuples of two."""

    def __init__(self):
        self.settle(1, (1, 1), (1, 1))

    def settle(self, parties, kept_own, kept_paid):
        self.parties = parties
        self.kept_own = kept_own
        self.kept_paid = kept_paid
        self.own = [(0, 1)] * parties
        self.owed = [[(0, 1)] * parties for i in range(parties)]


def answers(calls):
    """For each call in the list how many numbers it answers, then these."""
    house = House()
    told = []
    place = 0
    while place < len(calls):
        call = calls[place]
        first = place + 1
        place = first + HANDED_OVER[call]
        answer = answer_call(house, call, calls[first:place])
        told.append(len(answer))
        told.extend(answer)
    return told


def answer_call(house, call, handed):
    if call == BEGINS:
        return answer_begins(house, handed[0], handed[1], handed[2], handed[3], handed[4])
    if call == OWN:
        return answer_own(house, handed[0], handed[1], handed[2])
    if call == OWES:
        return answer_owes(house, handed[0], handed[1], handed[2], handed[3])
    if call in (PAYS, NEED, WITHOUT):
        return answer_about(house, call, handed[0])
    if call == CLEAR:
        return answer_clear(house)
    if call == LEAST:
        return answer_least(house)
    if call == NEEDS:
        return answer_needs(house)
    return answer_lost(house)


def answer_about(house, call, i):
    """The answer of a call that asks about party i alone."""
    if i >= house.parties:
        return [NO_SUCH_PARTY]
    if call == PAYS:
        return answer_pays(house, i)
    if call == NEED:
        return answer_need(house, i)
    return answer_without(house, i)


def answer_begins(house, n, a, b, c, d):
    if n < 1 or n > MOST_PARTIES or not is_part(a, b) or not is_part(c, d):
        return [NOT_ALLOWED]
    house.settle(n, fraction(a, b), fraction(c, d))
    return [n]


def answer_own(house, i, a, b):
    if i >= house.parties:
        return [NO_SUCH_PARTY]
    if b == 0:
        return [NOT_ALLOWED]
    house.own[i] = fraction(a, b)
    return [0]


def answer_owes(house, i, j, a, b):
    if i >= house.parties or j >= house.parties:
        return [NO_SUCH_PARTY]
    if b == 0 or i == j:
        return [NOT_ALLOWED]
    house.owed[i][j] = fraction(a, b)
    return [0]


def answer_clear(house):
    sheet = Sheet(house)
    payments = greatest_payments(sheet)
    return [how_many_fall(payments)] + payments.fell + paid_and_worth(sheet, payments)


def answer_least(house):
    if house.kept_paid[0] == house.kept_paid[1]:
        return [ALL_PAID_IS_KEPT]
    sheet = Sheet(house)
    payments = least_payments(sheet)
    return [how_many_fall(payments)] + paid_and_worth(sheet, payments)


def answer_pays(house, i):
    sheet = Sheet(house)
    payments = greatest_payments(sheet)
    told = [sheet.parties]
    for owed in sheet.owed[i]:
        told.extend(lowest(owed * payments.above[i], sheet.unit * payments.below))
    return told


def answer_need(house, i):
    """What party i lacks once it is saved: then it pays all it owes, and whoever fell through it may stand again.

    If party i doesn't fall, the greatest payments are also the greatest of those by which it pays all it owes; and
    these hang on nothing that it has of its own. So it must have just what it lacks by them.
    """
    sheet = Sheet(house)
    payments = greatest_payments_if_safe(sheet, i)
    return lowest(lack(sheet, payments, i), sheet.unit * payments.below)


def answer_needs(house):
    """What each lacks when all is paid, as it is where nobody falls."""
    sheet = Sheet(house)
    payments = all_paid(sheet)
    told = [sheet.parties]
    for i in range(sheet.parties):
        told.extend(lowest(lack(sheet, payments, i), sheet.unit * payments.below))
    return told


def answer_without(house, i):
    """Party i isn't among them: on the sheet without it, it owes nothing, and so can't fall."""
    now = greatest_payments(Sheet(house)).fell
    then = greatest_payments(sheet_without(house, i)).fell
    falling = [j for j in range(house.parties) if now[j] == 0 and then[j] > 0]
    return [len(falling)] + falling


def answer_lost(house):
    sheet = Sheet(house)
    payments = greatest_payments(sheet)
    below = sheet.unit * payments.below
    return lowest(lost_in_falling(sheet, payments), below) + lowest(left_unpaid(sheet, payments), below)


def how_many_fall(payments):
    return len([wave for wave in payments.fell if wave > 0])


def paid_and_worth(sheet, payments):
    """For each party what it pays and its worth, each in lowest terms."""
    below = sheet.unit * payments.below
    told = []
    for i in range(sheet.parties):
        told.extend(lowest(sheet.debts[i] * payments.above[i], below))
        told.extend(lowest(max(surplus(sheet, payments, i), 0), below))
    return told


def is_part(a, b):
    """Whether a / b is a fraction from 0 to 1."""
    return b > 0 and a <= b


def fraction(a, b):
    """a / b as a tuple in lowest terms, which keeps the numbers of every later reckoning small."""
    return tuple(lowest(a, b))
