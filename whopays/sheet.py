"""A house's amounts as whole numbers of one small unit, and what follows for a party from payments."""

from whopays.whole import shared_multiple


class Sheet:
    """All amounts of a house, counted in 1 / unit; what is kept, counted in 1 / kept_whole."""

    def __init__(self, house):
        self.unit = unit_of(house)
        self.parties = house.parties
        self.own = row_in_units(house.own, self.unit)
        self.owed = [row_in_units(row, self.unit) for row in house.owed]
        self.debts = [sum(row) for row in self.owed]
        self.kept_whole = house.kept_own[1] * house.kept_paid[1]
        self.kept_own = house.kept_own[0] * house.kept_paid[1]
        self.kept_paid = house.kept_paid[0] * house.kept_own[1]


class Payments:
    """Party i pays above[i] / below of all it owes; fell[i] is the wave in which it fell, or 0."""

    def __init__(self, below, above, fell):
        self.below = below
        self.above = above
        self.fell = fell


def sheet_without(house, i):
    """The sheet of the house if party i had nothing and paid nobody.

    Whoever owes nothing pays nothing and can't fall, so for the others it is all one whether party i doesn't pay or
    doesn't owe.
    """
    sheet = Sheet(house)
    sheet.own[i] = 0
    sheet.owed[i] = [0] * sheet.parties
    sheet.debts[i] = 0
    return sheet


def all_paid(sheet):
    """The payments by which all pay all they owe."""
    return Payments(1, [1] * sheet.parties, [0] * sheet.parties)


def unit_of(house):
    """A number that every number below a line in the house divides."""
    unit = 1
    for row in [house.own] + house.owed:
        for amount in row:
            unit = shared_multiple(unit, amount[1])
    return unit


def row_in_units(row, unit):
    return [amount[0] * (unit // amount[1]) for amount in row]


def paid_to(sheet, payments, i):
    """What party i is paid, counted in 1 / (unit * below)."""
    return sum([sheet.owed[j][i] * payments.above[j] for j in range(sheet.parties)])


def means(sheet, payments, i):
    """What party i has of its own and is paid, counted in 1 / (unit * below)."""
    return sheet.own[i] * payments.below + paid_to(sheet, payments, i)


def surplus(sheet, payments, i):
    """The means of party i less all it owes, counted in 1 / (unit * below); below 0 if it can't pay."""
    return means(sheet, payments, i) - sheet.debts[i] * payments.below


def lack(sheet, payments, i):
    """What party i's means fall short of all it owes, counted in 1 / (unit * below); 0 if it can pay."""
    return max(0 - surplus(sheet, payments, i), 0)


def lost_in_falling(sheet, payments):
    """The means of all that fell less what they pay, counted in 1 / (unit * below)."""
    fallen = [i for i in range(sheet.parties) if payments.fell[i] > 0]
    return sum([means(sheet, payments, i) - sheet.debts[i] * payments.above[i] for i in fallen])


def left_unpaid(sheet, payments):
    """All that is owed less all that is paid, counted in 1 / (unit * below)."""
    return sum([sheet.debts[i] * (payments.below - payments.above[i]) for i in range(sheet.parties)])


def can_pay(sheet, payments, i):
    return surplus(sheet, payments, i) >= 0


def can_pay_from_kept(sheet, payments, i):
    """Whether what party i would pay if it fell is all it owes, or more."""
    of_own = sheet.kept_own * sheet.own[i] * payments.below
    of_paid = sheet.kept_paid * paid_to(sheet, payments, i)
    return of_own + of_paid >= sheet.kept_whole * sheet.debts[i] * payments.below
