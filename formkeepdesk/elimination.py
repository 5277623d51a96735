"""Bareiss' elimination of mirrored rows, in whole numbers throughout."""


def split_rows(n, a):
    return [a[i * n:i * n + n] for i in range(n)]


def top_rows(rows):
    """The top row at each step of the elimination, up to the first whose corner isn't above 0.

    The corner of step i is the determinant of the first i + 1 rows and columns.
    """
    tops = []
    divisor = 1
    while rows:
        top = rows[0]
        tops.append(top)
        if top[0] <= 0:
            return tops
        rows = [reduced_row(top, row, divisor) for row in rows[1:]]
        divisor = top[0]
    return tops


def reduced_row(top, row, divisor):
    """One row after one step, without its first column."""
    # The corner before this one divides every such number without a rest, so all stays whole.
    return [(top[0] * row[j] - row[0] * top[j]) // divisor for j in range(1, len(row))]
