"""Changes of forms, found by trying all rows that can be there at all."""

from operator import mul

from tests import samples, slow_ways

# No pair's forms are the same, though their determinants and their least values are alike.
UNLIKE_PAIRS = (
    (2, [4, 0, 0, 4], [4, 2, 2, 5]),
    (2, [6, 0, 0, 4], [4, 2, 2, 7]),
    (2, [11, 3, 3, 8], [10, -1, -1, 8]),
    (2, [12, -3, -3, 9], [9, 0, 0, 11]),
    (3, samples.diagonal([1, 1, 6]), samples.diagonal([1, 2, 3])),
    (3, [10, 1, -1, 1, 9, -3, -1, -3, 7], [7, 2, 1, 2, 9, 3, 1, 3, 10]),
    (3, [7, -1, 2, -1, 8, 0, 2, 0, 9], [9, -1, 2, -1, 7, -1, 2, -1, 8]),
    (3, [4, 2, -1, 2, 8, -1, -1, -1, 6], [4, -2, -2, -2, 8, -2, -2, -2, 8]),
    (4, samples.diagonal([1, 1, 1, 4]), samples.diagonal([1, 1, 2, 2])),
    (4, [5, 0, -1, -1, 0, 3, 2, 0, -1, 2, 5, -2, -1, 0, -2, 6], [7, 3, 3, -1, 3, 4, 0, 0, 3, 0, 4, -1, -1, 0, -1, 6]),
    (4, [5, 3, -1, -2, 3, 7, -2, 2, -1, -2, 6, -2, -2, 2, -2, 7], [5, -2, 1, 0, -2, 5, 2, -2, 1, 2, 6, 0, 0, -2, 0, 7]),
    # These two have every value in equally many ways.
    (4, [4, 2, 0, 1, 2, 8, 3, 1, 0, 3, 10, 5, 1, 1, 5, 10], [4, 0, 1, 1, 0, 8, 1, -4, 1, 1, 8, 2, 1, -4, 2, 10]),
)
# Each form can be made into the other one, but by changes alone whose determinant is -1.
TURNED_OVER_PAIRS = (
    (2, [3, 1, 1, 5], [3, -1, -1, 5]),
    (2, [8, 3, 3, 10], [8, -3, -3, 10]),
    (4, [4, 2, 0, 1, 2, 8, 3, 1, 0, 3, 10, 5, 1, 1, 5, 10], [4, -2, 0, -1, -2, 8, 3, 1, 0, 3, 10, 5, -1, 1, 5, 10]),
)


def changes_between(n, a, b):
    """All changes that make a into b, each as a list of rows."""
    starts = [[]]
    for i in range(n):
        lines = slow_ways.ways_in_box(n, a, b[i * n + i])
        longer = []
        for start in starts:
            for line in lines:
                if all(beside(n, a, line, start[j]) == b[i * n + j] for j in range(i)):
                    longer.append(start + [line])
        starts = longer
    # Rows that make a into b need not be a change yet.
    return [start for start in starts if abs(samples.slow_det(n, samples.flat(start))) == 1]


def beside(n, a, left, right):
    return sum(left[k] * a[k * n + m] * right[m] for k in range(n) for m in range(n))


def in_order(n, a):
    """A form's numbers in the order in which forms are compared."""
    return [a[i * n + j] for i in range(n) for j in range(i, -1, -1)]


def all_lines(n, a, most):
    """All unknowns at which the value is from 1 to most."""
    return [line for m in range(1, most + 1) for line in slow_ways.ways_in_box(n, a, m)]


def first_in_order(n, a, lines):
    """The numbers, in order, of the first form that a change with these lines as rows makes of a.

    Every change is tried but those whose first rows put the form behind one that was found before.
    """
    best = in_order(n, a)
    images = {tuple(line): samples.times_rows(n, line, a) for line in lines}
    waiting = [([], [])]
    while waiting:
        rows, numbers = waiting.pop()
        if len(rows) == n:
            if numbers < best and abs(samples.slow_det(n, samples.flat(rows))) == 1:
                best = numbers
            continue
        for line in lines:
            image = images[tuple(line)]
            more = numbers + [sum(map(mul, image, row)) for row in [line] + rows[::-1]]
            if more <= best[:len(more)]:
                waiting.append((rows + [line], more))
    return best


def turned_over(n, c):
    """The change with its first row's signs turned over: its determinant has the other sign."""
    return [-number for number in c[:n]] + c[n:]


def ordinary_forms(n):
    """Forms in n unknowns, n from 1 to 4, some with very many changes that leave them, some with 2 alone."""
    found = [a for size, a, determinant in samples.good_forms() if size == n]
    found += [a for size, left, right in UNLIKE_PAIRS + TURNED_OVER_PAIRS if size == n for a in (left, right)]
    return found


def changed_in_bounds(n, a, seed, how_many):
    """(form, change) where a changed by the change is that form; determinants are 1 and -1 by turns."""
    numbers = samples.Numbers(seed)
    found = []
    for attempt in range(200 * how_many):
        c = samples.drawn_change(n, numbers, numbers.draw(1, 4))
        if len(found) % 2:
            c = turned_over(n, c)
        b = samples.changed(n, a, c)
        if max(abs(number) for number in b) <= 32:
            found.append((b, c))
        if len(found) == how_many:
            return found
    raise AssertionError("too few forms in bounds")
