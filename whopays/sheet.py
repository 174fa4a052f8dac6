"""A house's amounts as whole numbers of one small unit, and what follows for a party from payments."""

from whopays.whole import shared_multiple


class Sheet:
    """All amounts of a house, counted in 1 / unit; what is kept, counted in 1 / kept_whole."""

    def __init__(self, house):
        self.unit = unit_of(house)
        self.parties = house.parties
        self.own = row_in_units(house.own, self.unit)
        self.owed = [row_in_units(row, self.unit) for row in house.owed]
        self.debts = [sum(row) for row in self.owed]
        self.kept_whole = house.kept_own[1] * house.kept_paid[1]
        self.kept_own = house.kept_own[0] * house.kept_paid[1]
        self.kept_paid = house.kept_paid[0] * house.kept_own[1]


class Payments:
    """Party i pays above[i] / below of all it owes; fell[i] is the wave in which it fell, or 0."""

    def __init__(self, below, above, fell):
        self.below = below
        self.above = above
        self.fell = fell


def unit_of(house):
    """A number that every number below a line in the house divides."""
    unit = 1
    for row in [house.own] + house.owed:
        for amount in row:
            unit = shared_multiple(unit, amount[1])
    return unit


def row_in_units(row, unit):
    return [amount[0] * (unit // amount[1]) for amount in row]


def paid_to(sheet, payments, i):
    """What party i is paid, counted in 1 / (unit * below)."""
    return sum([sheet.owed[j][i] * payments.above[j] for j in range(sheet.parties)])


def means(sheet, payments, i):
    """What party i has of its own and is paid, counted in 1 / (unit * below)."""
    return sheet.own[i] * payments.below + paid_to(sheet, payments, i)


def surplus(sheet, payments, i):
    """The means of party i less all it owes, counted in 1 / (unit * below); below 0 if it can't pay."""
    return means(sheet, payments, i) - sheet.debts[i] * payments.below


def can_pay(sheet, payments, i):
    return surplus(sheet, payments, i) >= 0


def can_pay_from_kept(sheet, payments, i):
    """Whether what party i would pay if it fell is all it owes, or more."""
    of_own = sheet.kept_own * sheet.own[i] * payments.below
    of_paid = sheet.kept_paid * paid_to(sheet, payments, i)
    return of_own + of_paid >= sheet.kept_whole * sheet.debts[i] * payments.below
