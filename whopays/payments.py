"""The greatest and the least payments that can be."""

from whopays.equations import solve
from whopays.sheet import Payments, can_pay, can_pay_from_kept


def greatest_payments(sheet):
    """The greatest payments that can be, with the wave in which each party falls."""
    return sink(sheet, [False] * sheet.parties, can_pay)


def greatest_payments_if_safe(sheet, i):
    """The greatest payments if party i pays all it owes, whatever its means are."""
    return sink(sheet, [j == i for j in range(sheet.parties)], can_pay)


def least_payments(sheet):
    """The least payments that can be; what is kept of what is paid must be less than 1.

    Whoever isn't known to be able to pay pays as the fallen do, though never more than it owes: no payments that
    can be are less than these. Whoever can pay by these can therefore pay by all that can be, and is safe. When
    nobody more is safe, all others fall, and the payments themselves can be.
    """
    safe = [False] * sheet.parties
    payments = sink(sheet, safe, can_pay_from_kept)
    rising = newly_safe(sheet, payments, safe)
    while len(rising) > 0:
        for i in rising:
            safe[i] = True
        payments = sink(sheet, safe, can_pay_from_kept)
        rising = newly_safe(sheet, payments, safe)
    return payments


def newly_safe(sheet, payments, safe):
    return [i for i in range(sheet.parties) if not safe[i] and can_pay(sheet, payments, i)]


def sink(sheet, safe, stands):
    """Payments from all that is owed downwards, wave by wave.

    In each wave those that aren't safe and don't stand by the payments so far begin to pay as the fallen do.
    As payments only sink, nobody that has fallen would stand again.
    """
    fell = [0] * sheet.parties
    wave = 0
    payments = payments_after(sheet, fell)
    falling = newly_falling(sheet, payments, safe, stands)
    while len(falling) > 0:
        wave = wave + 1
        for i in falling:
            fell[i] = wave
        payments = payments_after(sheet, fell)
        falling = newly_falling(sheet, payments, safe, stands)
    return payments


def newly_falling(sheet, payments, safe, stands):
    waiting = [i for i in range(sheet.parties) if payments.fell[i] == 0 and not safe[i]]
    return [i for i in waiting if not stands(sheet, payments, i)]


def payments_after(sheet, fell):
    """The payments by which those fallen pay as the fallen do, and all others all they owe.

    The equations have one solution even where all that is paid is kept: among parties that owe one another alone,
    not all can come to fall wave by wave, since together they are paid at least what they pay.
    """
    solution = solve([equation(sheet, fell, i) for i in range(sheet.parties)])
    return Payments(solution[0], solution[1:], list(fell))


def equation(sheet, fell, i):
    """What party i's payment hangs on; the unknowns are the parts that the parties pay of all they owe."""
    if fell[i] == 0:
        return [1 if j == i else 0 for j in range(sheet.parties)] + [1]
    row = [0 - sheet.kept_paid * sheet.owed[j][i] for j in range(sheet.parties)]
    row[i] = sheet.kept_whole * sheet.debts[i]
    return row + [sheet.kept_own * sheet.own[i]]
