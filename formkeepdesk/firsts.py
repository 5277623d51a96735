"""The first of all forms that are the same as a form, and how many changes lead to it.

A change is built row by row, from lines: unknowns at which the value is small. A start is the first rows
of some change; that lines are so is told by their minors of full size, which then have no common divisor
but 1. It is kept as its images (in each the sums of a line's products with the form's rows) and its minors
by their columns. A tail is what a row of the changed form has, from its own column back to the first.
"""

from formkeepdesk.choices import empty_choice, grown_choices
from formkeepdesk.elimination import split_rows
from formkeepdesk.reduction import product_sum, reduced_columns


def first_of_same(n, a):
    """The first form that is the same as a, and how many changes make a into it; n is at most 4."""
    rows = split_rows(n, a)
    lines = lines_by_value(n, a)
    starts = [([], {(): 1})]
    tails = []
    for at in range(n):
        found = longer_starts(rows, lines, starts, [tail[0] for tail in reversed(tails)])
        tails.append(found[0])
        starts = found[1]
    return (mirrored(n, tails), len(starts))


def lines_by_value(n, a):
    """All unknowns that may be a row of a change to the first form, by their value."""
    # With up to 4 unknowns each own number of the first form is the least that so many unknowns of which
    # none depends on the others can have, so none is above the greatest own number of the form handed in.
    most = max([a[i * n + i] for i in range(n)])
    lines = {}
    for value, line in grown_choices(n, reduced_columns(n, a), empty_choice(n), 0, most):
        lines.setdefault(value, []).append(line)
    return lines


def longer_starts(rows, lines, starts, owns):
    """The first tail that a row behind the starts can have, and all starts with a row that has it."""
    for value in sorted(lines):
        joins = joins_by_tail(lines[value], starts, owns)
        for tail in sorted(joins):
            longer = joined_starts(rows, joins[tail])
            if longer:
                return ([value] + list(tail), longer)
    # Not reached: each start has such a row among the lines.
    return ([], [])


def joins_by_tail(lines, starts, owns):
    """Each start with each line that may come behind it, by the tail without the own number."""
    joins = {}
    for start in starts:
        for line in lines:
            tail = [product_sum(line, image) for image in reversed(start[0])]
            if is_short(tail, owns):
                joins.setdefault(tuple(tail), []).append((start, line))
    return joins


def is_short(tail, owns):
    """Tell whether a line's value gets no less when a row ahead of it is added or taken away."""
    # Where it gets less, the lesser line makes as good a row, and its tail comes first.
    for number, own in zip(tail, owns):
        if 2 * abs(number) > own:
            return False
    return True


def joined_starts(rows, joins):
    """Those joins of a start and a line that are a start themselves."""
    found = []
    for start, line in joins:
        minors = longer_minors(len(rows), start[1], line)
        if common_divisor(list(minors.values())) == 1:
            image = [product_sum(line, row) for row in rows]
            found.append((start[0] + [image], minors))
    return found


def longer_minors(n, minors, line):
    """The minors with the line as one row more, expanded along it."""
    found = {}
    for columns, minor in minors.items():
        for j in range(n):
            if j not in columns:
                behind = len([column for column in columns if column > j])
                wider = tuple(sorted(columns + (j,)))
                found[wider] = found.get(wider, 0) + (-1 if behind % 2 else 1) * minor * line[j]
    return found


def common_divisor(numbers):
    found = 0
    for number in numbers:
        other = abs(number)
        while other > 0:
            rest = found % other
            found = other
            other = rest
    return found


def mirrored(n, tails):
    """The form, its rows one behind another, of which each row's tail is told."""
    form = []
    for i in range(n):
        form.extend([tails[max(i, j)][abs(i - j)] for j in range(n)])
    return form
