"""Ways to a value, found by trying all unknowns within a box that is surely great enough."""

from math import isqrt

from tests import samples

MOST_POINTS = 120000


def box(n, a, m):
    """How far each unknown may go where the value is m at the most.

    x[i] squared is at most the value times the number in row i, column i of the form's inverse.
    """
    determinant = samples.slow_det(n, a)
    return [isqrt(m * samples.slow_det(n - 1, samples.without(n, a, i, i)) // determinant) for i in range(n)]


def points(reaches):
    found = 1
    for reach in reaches:
        found *= 2 * reach + 1
    return found


def is_small(n, a, m):
    return points(box(n, a, m)) <= MOST_POINTS


def ways_in_box(n, a, m):
    """All ways to m, the first one first."""
    reaches = box(n, a, m)
    # Each entry: the unknowns so far, their value, and twice their sums with the columns still to come.
    entries = [([], 0, [0] * n)]
    for i in range(n):
        row = a[i * n:(i + 1) * n]
        more = []
        for unknowns, so_far, sums in entries:
            for x in range(-reaches[i], reaches[i] + 1):
                reached = so_far + x * (sums[0] + row[i] * x)
                if i < n - 1:
                    beside = [s + 2 * x * number for s, number in zip(sums[1:], row[i + 1:])]
                    more.append((unknowns + [x], reached, beside))
                elif reached == m:
                    more.append((unknowns + [x], reached, []))
        entries = more
    return [unknowns for unknowns, so_far, sums in entries]


def first_answer(ways):
    """What fm_way is to answer where these are all ways, the first one first."""
    return [0] + ways[0] if ways else [-6]


def counts_of_diagonal(own, most):
    """By value from 0 to most: in how many ways it is a sum of the own numbers times squares."""
    found = [1] + [0] * most
    for number in own:
        more = [0] * (most + 1)
        for so_far in range(most + 1):
            for x in range(-isqrt((most - so_far) // number), isqrt((most - so_far) // number) + 1):
                more[so_far + number * x * x] += found[so_far]
        found = more
    return found


def first_of_diagonal(own, m):
    """The first way to m as a sum of the own numbers times squares, None if there is none."""
    if counts_of_diagonal(own, m)[m] == 0:
        return None
    way = []
    for i in range(len(own)):
        rest = counts_of_diagonal(own[i + 1:], m)
        x = -isqrt(m // own[i])
        while rest[m - own[i] * x * x] == 0:
            x += 1
        way.append(x)
        m -= own[i] * x * x
    return way


def ways_when_changed(n, own, c, m):
    """All ways to m of the form with these own numbers alone, changed by c: the first one first.

    Its value at x is the first form's value at the sum of the rows of c, each times its unknown.
    """
    inverse = samples.inverse(n, c)
    ways = ways_in_box(n, samples.diagonal(own), m)
    return sorted(samples.times_rows(n, way, inverse) for way in ways)


def steep_change(n, number):
    """1 in each own column and this number ahead of it: its inverse has great numbers."""
    return [1 if i == j else number if j < i else 0 for i in range(n) for j in range(n)]
