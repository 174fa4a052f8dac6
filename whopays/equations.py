"""Equations between whole numbers, solved without leaving whole numbers."""


def solve(rows):
    """The one solution of as many equations as unknowns.

    Row i holds the factors of the unknowns, then what they come to. No row is swapped for another, so each
    square of factors that begins at the top left must have a determinant other than 0. The answer is a list:
    first what is below the line for all unknowns, which is the determinant, then what is above it for each.
    """
    count = len(rows)
    reached = rows
    before = 1
    for k in range(count):
        chosen = reached[k]
        reached = [row_at(reached, i, k, before) for i in range(count)]
        before = chosen[k]
    return [before] + [row[count] for row in reached]


def row_at(rows, i, k, before):
    """Row i after unknown k is taken out of every row but row k."""
    if i == k:
        return rows[k]
    return without_unknown(rows[i], rows[k], k, before)


def without_unknown(row, chosen, k, before):
    """The row with its unknown k taken out by means of the chosen one.

    The pivot before divides each of these numbers (Bareiss), so nothing is lost by the division; without it the
    numbers would double their length at every step.
    """
    pivot = chosen[k]
    factor = row[k]
    return [(pivot * row[c] - factor * chosen[c]) // before for c in range(len(row))]
