"""Tables of numbers: rows of equally many; nothing here checks what it is passed."""

from bandrims.base.pairs import pair_less, pair_product, pair_quotient


def solved(rows):
    """The list of the unknowns of as many equations, which have just one solution.

    A row has the fractions by which the unknowns are multiplied, and behind them what their sum is.
    """
    left = list(rows)
    for column in range(len(rows)):
        lead = _first_with(left, column)
        row = [pair_quotient(pair, left[lead][column]) for pair in left[lead]]
        others = [_cleared(other, row, column) for k, other in enumerate(left) if k != lead]
        # Each row comes to the end when it is used, so that at last they stand by their unknowns.
        left = others + [row]
    return [row[-1] for row in left]


def _first_with(rows, column):
    """The index of the first row that is not used and has a number other than 0 in a column."""
    return [k for k in range(len(rows) - column) if rows[k][column][0] != 0][0]


def _cleared(other, row, column):
    """The row with a multiple of another one taken away, so that it has 0 in a column."""
    return [pair_less(pair, pair_product(other[column], taken)) for pair, taken in zip(other, row)]
