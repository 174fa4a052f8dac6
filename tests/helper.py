"""What the tests share: writing lists of calls, reading answers, and a reckoning of their own by fractions."""

from fractions import Fraction
from itertools import product

from whopays.house import answers

ONE = (1, 1)
HALF = (1, 2)
NONE = (0, 1)


def begins(n, kept_own=ONE, kept_paid=ONE):
    return [0, n, *kept_own, *kept_paid]


def own(i, a, b=1):
    return [1, i, a, b]


def owes(i, j, a, b=1):
    return [2, i, j, a, b]


CLEAR = [3]
LEAST = [4]


def pays(i):
    return [5, i]


def need(i):
    return [6, i]


NEEDS = [7]


def without(i):
    return [8, i]


LOST = [9]


def line(*calls):
    return [number for call in calls for number in call]


def ask(*calls):
    """The answers of the calls, each a list of its own; the layout is checked on the way."""
    told = answers(line(*calls))
    assert isinstance(told, list) and all(type(number) is int for number in told), told
    rows = []
    place = 0
    while place < len(told):
        count = told[place]
        assert count >= 1, told
        rows.append(told[place + 1:place + 1 + count])
        place += 1 + count
    assert place == len(told) and len(rows) == len(calls), told
    return rows


def last(*calls):
    return ask(*calls)[-1]


def pairs(numbers):
    """The fractions that the numbers tell, each checked to be in lowest terms."""
    assert len(numbers) % 2 == 0, numbers
    told = []
    for place in range(0, len(numbers), 2):
        value = Fraction(numbers[place], numbers[place + 1])
        assert [value.numerator, value.denominator] == numbers[place:place + 2], numbers
        told.append(value)
    return told


def read_clear(numbers, n):
    """(how many fall, waves, what each pays, each one's worth)"""
    assert len(numbers) == 1 + 5 * n, numbers
    told = pairs(numbers[1 + n:])
    return numbers[0], numbers[1:1 + n], told[0::2], told[1::2]


def read_least(numbers, n):
    """(how many fall, what each pays, each one's worth)"""
    assert len(numbers) == 1 + 4 * n, numbers
    told = pairs(numbers[1:])
    return numbers[0], told[0::2], told[1::2]


def read_for_each(numbers, n):
    """What pays or needs tells: a fraction for each party."""
    assert numbers[0] == n and len(numbers) == 1 + 2 * n, numbers
    return pairs(numbers[1:])


def read_need(numbers):
    assert len(numbers) == 2, numbers
    return pairs(numbers)[0]


def read_without(numbers):
    """The parties, of which none comes twice and each is behind the one before."""
    assert numbers[0] == len(numbers) - 1 and numbers[1:] == sorted(set(numbers[1:])), numbers
    return numbers[1:]


def read_lost(numbers):
    """(what is lost in falling, what isn't paid)"""
    assert len(numbers) == 4, numbers
    return tuple(pairs(numbers))


class Model:
    """A house, reckoned by fractions straight from the words of the document."""

    def __init__(self, kept_own, kept_paid, owned, owed):
        self.n = len(owned)
        self.kept_own = Fraction(*kept_own)
        self.kept_paid = Fraction(*kept_paid)
        self.owned = [Fraction(value) for value in owned]
        self.owed = [[Fraction(value) for value in row] for row in owed]
        self.debts = [sum(row) for row in self.owed]

    def calls(self):
        told = [begins(self.n, self.kept_own.as_integer_ratio(), self.kept_paid.as_integer_ratio())]
        for i in range(self.n):
            told.append(own(i, *self.owned[i].as_integer_ratio()))
            for j in range(self.n):
                if self.owed[i][j] != 0:
                    told.append(owes(i, j, *self.owed[i][j].as_integer_ratio()))
        return told

    def gets(self, pays, i):
        return sum(pays[j] * self.owed[j][i] / self.debts[j] for j in range(self.n) if self.debts[j] > 0)

    def means(self, pays, i):
        return self.owned[i] + self.gets(pays, i)

    def falls(self, pays, i):
        return self.means(pays, i) < self.debts[i]

    def due(self, pays, i):
        """What i pays if the payments are as told."""
        if self.falls(pays, i):
            return self.kept_own * self.owned[i] + self.kept_paid * self.gets(pays, i)
        return self.debts[i]

    def can_be(self, pays):
        return all(pays[i] == self.due(pays, i) for i in range(self.n))

    def fallen(self, pays):
        return [i for i in range(self.n) if self.falls(pays, i)]

    def worth(self, pays):
        return [max(self.means(pays, i) - self.debts[i], Fraction(0)) for i in range(self.n)]

    def with_fallen(self, fallen, silent=None):
        """The payments by which just these pay as the fallen do; None if there isn't just one such.

        The silent one, if there is one, pays nothing.
        """
        rows = []
        for i in range(self.n):
            row = [Fraction(int(i == j)) for j in range(self.n)]
            if i == silent:
                row.append(Fraction(0))
            elif i in fallen:
                for j in range(self.n):
                    if self.debts[j] > 0:
                        row[j] -= self.kept_paid * self.owed[j][i] / self.debts[j]
                row.append(self.kept_own * self.owned[i])
            else:
                row.append(self.debts[i])
            rows.append(row)
        return eliminated(rows)

    def all_that_can_be(self):
        """All payments that can be; complete where kept of paid is below 1, for then none is missed."""
        found = []
        for chosen in product([False, True], repeat=self.n):
            pays = self.with_fallen([i for i in range(self.n) if chosen[i]])
            if pays is not None and min(pays) >= 0 and self.can_be(pays):
                found.append(pays)
        return found

    def greatest(self):
        """The greatest of all payments that can be, found by waves only where they may be without number."""
        if self.kept_paid == 1:
            return self.waves()[1]
        return greatest_of(self.all_that_can_be())

    def greatest_without(self, silent):
        """The greatest payments if one pays nobody anything; for kept of paid below 1."""
        found = []
        for chosen in product([False, True], repeat=self.n):
            told = self.with_fallen([i for i in range(self.n) if chosen[i]], silent)
            others = [i for i in range(self.n) if i != silent]
            if min(told) >= 0 and all(told[i] == self.due(told, i) for i in others):
                found.append(told)
        return greatest_of(found)

    def with_more(self, more):
        """The same house, in which each has so much more of its own."""
        owned = [value + extra for value, extra in zip(self.owned, more)]
        return Model(self.kept_own.as_integer_ratio(), self.kept_paid.as_integer_ratio(), owned, self.owed)

    def on_grid(self, step):
        """All payments that can be among the multiples of the step."""
        rows = [[step * k for k in range(int(debt / step) + 1)] for debt in self.debts]
        return [list(pays) for pays in product(*rows) if self.can_be(pays)]

    def waves(self):
        """The wave of each, and the payments in the end, as "Waves" tells them."""
        wave = [0] * self.n
        pays = list(self.debts)
        number = 0
        while True:
            falling = [i for i in self.fallen(pays) if wave[i] == 0]
            if not falling:
                return wave, pays
            number += 1
            for i in falling:
                wave[i] = number
            pays = self.with_fallen([i for i in range(self.n) if wave[i] > 0])


def greatest_of(found):
    """The one among the payments by which each pays as much as by any other."""
    most = [max(column) for column in zip(*found)]
    assert most in found, found
    return most


def drawn(source, n, kept_own, kept_paid, most_own, most_owed, filled, below=1):
    """A house drawn from the source, in which about one debt in `filled` is above 0."""
    owned = [Fraction(source.randint(0, most_own), source.randint(1, below)) for i in range(n)]
    owed = [[Fraction(0)] * n for i in range(n)]
    for i, j in product(range(n), range(n)):
        if i != j and source.randrange(filled) == 0:
            owed[i][j] = Fraction(source.randint(1, most_owed), source.randint(1, below))
    return Model(kept_own, kept_paid, owned, owed)


def eliminated(rows):
    """Solves the rows by plain elimination with swaps; None if there isn't just one solution."""
    rows = [list(row) for row in rows]
    count = len(rows)
    for k in range(count):
        swap = next((i for i in range(k, count) if rows[i][k] != 0), None)
        if swap is None:
            return None
        rows[k], rows[swap] = rows[swap], rows[k]
        rows[k] = [value / rows[k][k] for value in rows[k]]
        for i in range(count):
            if i != k and rows[i][k] != 0:
                factor = rows[i][k]
                rows[i] = [a - factor * b for a, b in zip(rows[i], rows[k])]
    return [row[count] for row in rows]
