"""Tables of numbers: rows of equally many; nothing here checks what it is passed."""

from bandrims.base.pairs import pair_less, pair_product, pair_quotient


def solved(rows):
    """The list of the unknowns of as many equations, which have just one solution.

    A row has the fractions by which the unknowns are multiplied, and behind them what their sum is.
    """
    left = list(rows)
    for column in range(len(rows)):
        lead = _first_with(left, column)
        row = [pair_quotient(pair, left[lead][column]) for pair in left[lead]]
        others = [_cleared(other, row, column) for k, other in enumerate(left) if k != lead]
        # Each row comes to the end when it is used, so that at last they stand by their unknowns.
        left = others + [row]
    return [row[-1] for row in left]


def _first_with(rows, column):
    """The index of the first row that is not used and has a number other than 0 in a column."""
    fit = [k for k in range(len(rows) - column) if rows[k][column][0] != 0]
    return fit[0]


def _cleared(other, row, column):
    """The row with a multiple of another one taken away, so that it has 0 in a column."""
    return [pair_less(pair, pair_product(other[column], taken)) for pair, taken in zip(other, row)]


def determinant(rows):
    """The determinant of a table of integers, 1 if it is empty."""
    left = [list(row) for row in rows]
    sign = 1
    divisor = 1
    while len(left) > 0:
        fit = [k for k, row in enumerate(left) if row[0] != 0]
        if len(fit) == 0:
            return 0
        lead = left[fit[0]]
        # A row that comes to the front passes all those ahead of it.
        sign = sign * (1 - 2 * (fit[0] % 2))
        others = left[:fit[0]] + left[fit[0] + 1:]
        # Each of these quotients is an integer: a determinant of a part of the table.
        left = [_without_first(row, lead, divisor) for row in others]
        divisor = lead[0]
    return sign * divisor


def _without_first(row, lead, divisor):
    """The row, its first number taken away by means of the leading row, divided by the one that led before."""
    return [(lead[0] * row[k] - row[0] * lead[k]) // divisor for k in range(1, len(row))]
