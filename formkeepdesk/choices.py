"""All choices of whole numbers, one for each row of a basis, whose value is not too great.

Numbers are chosen from the last row on. A choice is what its rows so far have spent of the value, times
the corner of the next row, and its marks: the sum of the chosen rows, then the sums of their columns up to
the next row. Where no row is left, what is spent is the value, and the marks are the unknowns.
"""


def empty_choice(n):
    """The choice of which no row is chosen yet."""
    return (0, [0] * (2 * n))


def grown_choices(n, columns, start, to, most):
    """The choice, with all fitting numbers for the rows from its next one down to row number `to`."""
    last = len(start[1]) - n - 1
    choices = [start]
    for at in range(last, to - 1, -1):
        before = columns[at - 1][-1] if at > 0 else 1
        grown = []
        for choice in choices:
            grow(choice, columns[at], before, most, grown)
        choices = grown
    return choices


def grow(choice, column, before, most, grown):
    """Append to grown the choice with each fitting number of the row that the column tells of."""
    spent = choice[0]
    marks = choice[1]
    corner = column[-1]
    beside = marks[-1]
    reach = whole_root(before * (corner * most - spent))
    for number in range(-((reach + beside) // corner), (reach - beside) // corner + 1):
        side = corner * number + beside
        more = [x + number * y for x, y in zip(marks[:-1], column)]
        # What is spent times the next corner is a determinant of whole numbers, so there is no rest.
        grown.append(((side * side + before * spent) // corner, more))


def whole_root(number):
    """The greatest whole number whose square is at most this number, which is not below 0."""
    root = 1 << (number.bit_length() + 1) // 2
    while root * root > number:
        root = (root + number // root) // 2
    return root
