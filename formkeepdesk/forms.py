"""The calls on whole-number forms.

Each call takes numbers and lists and answers a new list; a refusal is its number alone.
"""

WRONG_SIZE = -2
NOT_A_FORM = -1

MOST_UNKNOWNS = 8
GREATEST_NUMBER = 32


def fm_good(n, a):
    """Answer 1 if a is a form in n unknowns, 0 if it isn't."""
    if not is_size(n):
        return [WRONG_SIZE]
    if not is_form(n, a):
        return [0]
    return [1]


def fm_det(n, a):
    """Answer 0, then the determinant of the form a."""
    if not is_size(n):
        return [WRONG_SIZE]
    if not is_form(n, a):
        return [NOT_A_FORM]
    return [0, leading_determinants(n, a)[-1]]


def is_size(n):
    return 1 <= n <= MOST_UNKNOWNS


def is_form(n, a):
    return is_in_bounds(a) and is_mirrored(n, a) and is_above_zero(n, a)


def is_in_bounds(a):
    return min(a) >= -GREATEST_NUMBER and max(a) <= GREATEST_NUMBER


def is_mirrored(n, a):
    for i in range(n):
        for j in range(i):
            if a[i * n + j] != a[j * n + i]:
                return False
    return True


def is_above_zero(n, a):
    """Tell whether the value is above 0 wherever some unknown isn't 0; a is mirrored."""
    # It is so just where every leading determinant is above 0. That holds for whole unknowns as it does
    # for fractions: where the value is not above 0 at some fractions, a multiple of these is whole.
    # The walk stops at the first that isn't above 0, so the last one tells of them all.
    return leading_determinants(n, a)[-1] > 0


def leading_determinants(n, a):
    """The determinants of the first 1, 2, .. n rows and columns, up to the first that isn't above 0."""
    rows = split_rows(n, a)
    found = []
    divisor = 1
    while rows:
        corner = rows[0][0]
        found.append(corner)
        if corner <= 0:
            return found
        rows = [reduced_row(rows[0], row, divisor) for row in rows[1:]]
        divisor = corner
    return found


def split_rows(n, a):
    return [a[i * n:i * n + n] for i in range(n)]


def reduced_row(top, row, divisor):
    """One row of Bareiss' elimination, without its first column."""
    # The corner before this one divides every such number without a rest, so all stays whole.
    return [(top[0] * row[j] - row[0] * top[j]) // divisor for j in range(1, len(row))]
