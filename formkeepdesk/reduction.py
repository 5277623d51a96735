"""A basis in which a form's numbers are small, so that few choices lie beside those that are sought.

A basis is n rows, of which every list of n whole numbers is a whole-number sum in just one way. Each row
is kept with its column: the numbers that the elimination of the basis' form leaves in the row's column,
from the first row down to its own, the corner.
"""

from formkeepdesk.elimination import split_rows, top_rows


def reduced_columns(n, a):
    """Row and column, in one list for each row, of a reduced basis of the form a."""
    rows = split_rows(n, a)
    basis = unit_rows(n)
    at = 1
    while at < n:
        columns = columns_of(rows, basis[:at + 1])
        settled = settle(columns[:at], columns[at][:-1])
        basis[at] = settled[:n]
        # A swap makes one leading determinant less and leaves the others, so there is an end of swaps.
        if is_less_swapped(columns, settled[-1]):
            basis[at] = basis[at - 1]
            basis[at - 1] = settled[:n]
            at = max(at - 1, 1)
        else:
            at += 1
    return columns_of(rows, basis)


def unit_rows(n):
    return [[1 if i == j else 0 for j in range(n)] for i in range(n)]


def columns_of(rows, basis):
    tops = top_rows(changed_rows(rows, basis))
    return [basis[j] + [tops[i][j - i] for i in range(j + 1)] for j in range(len(basis))]


def changed_rows(rows, basis):
    """The rows of the form when changed by the basis."""
    halves = [[product_sum(line, row) for row in rows] for line in basis]
    return [[product_sum(half, line) for line in basis] for half in halves]


def product_sum(left, right):
    return sum([x * y for x, y in zip(left, right)])


def settle(columns, marks):
    """Marks less whole multiples of the columns, so that beside each corner at most half of it stays.

    What is left is one and the same for all marks that differ by such multiples.
    """
    for column in reversed(columns):
        corner = column[-1]
        size = len(column)
        times = (2 * marks[size - 1] + corner) // (2 * corner)
        marks = [x - times * y for x, y in zip(marks, column)] + marks[size:]
    return marks


def is_less_swapped(columns, beside):
    """Tell whether the last corner but one gets less when the last two rows are swapped.

    Beside that corner stands, in the last column, the number that is told.
    """
    at = len(columns) - 1
    before = columns[at - 2][-1] if at > 1 else 1
    corner = columns[at - 1][-1]
    return beside * beside + before * columns[at][-1] < corner * corner
