"""Forms and slow, plain reckonings that the tests hold the program against."""

from itertools import product

SIZES = range(1, 9)
LEAST_INT = -2147483648
GREATEST_INT = 2147483647
WRONG_SIZES = (LEAST_INT, LEAST_INT + 1, -8, -2, -1, 0, 9, 10, 64, GREATEST_INT - 1, GREATEST_INT)
WRONG_VALUES = (LEAST_INT, LEAST_INT + 1, -64, -2, -1, 65, 66, 128, GREATEST_INT - 1, GREATEST_INT)


class WatchedList(list):
    """A list that fails at the first change, even one that would be taken back."""

    def refuse(self, *args, **kwargs):
        raise AssertionError("the list handed in was changed")

    __setitem__ = __delitem__ = __iadd__ = __imul__ = refuse
    append = clear = extend = insert = pop = remove = reverse = sort = refuse


def flat(rows):
    return [number for row in rows for number in row]


def split(n, a):
    return [a[i * n:(i + 1) * n] for i in range(n)]


def diagonal(numbers):
    n = len(numbers)
    return [numbers[i] if i == j else 0 for i in range(n) for j in range(n)]


def graph(n, edges):
    """2 in each own column, -1 at each edge, on both sides."""
    a = diagonal([2] * n)
    for i, j in edges:
        a[i * n + j] = a[j * n + i] = -1
    return a


def path_edges(n):
    return [(i, i + 1) for i in range(n - 1)]


def chain(n):
    """The root form A of n unknowns: its determinant is n + 1."""
    return graph(n, path_edges(n))


def fork(n):
    """The root form D of n unknowns, n from 4 on: its determinant is 4."""
    return graph(n, path_edges(n - 1) + [(n - 3, n - 1)])


def exceptional(n):
    """The root form E of n unknowns, n from 6 to 8: its determinant is 9 - n."""
    return graph(n, path_edges(n - 1) + [(2, n - 1)])


def ring(n):
    """A closed chain, n from 3 on: its value is 0 where all unknowns are 1."""
    return graph(n, path_edges(n) + [(n - 1, 0)])


def star(n):
    """Four arms round a middle, n = 5: its value is 0 at 2, 1, 1, 1, 1."""
    return graph(n, [(0, i) for i in range(1, n)])


def value(n, a, x):
    return sum(x[i] * a[i * n + j] * x[j] for i in range(n) for j in range(n))


def changed(n, a, c):
    """a changed by c, both one row behind another: the sum of all c[i][k] a[k][l] c[j][l]."""
    return [
        sum(c[i * n + k] * a[k * n + m] * c[j * n + m] for k in range(n) for m in range(n))
        for i in range(n)
        for j in range(n)
    ]


def slow_det(n, a):
    """The determinant by expansion along the rows, without any division."""
    found = {0: 1}
    for row in range(n):
        more = {}
        for used, so_far in found.items():
            for column in range(n):
                if used >> column & 1:
                    continue
                sign = -1 if bin(used >> column).count("1") % 2 else 1
                mask = used | 1 << column
                more[mask] = more.get(mask, 0) + sign * so_far * a[row * n + column]
        found = more
    return found[(1 << n) - 1]


def without(n, a, row, column):
    return [a[i * n + j] for i in range(n) for j in range(n) if i != row and j != column]


def inverse(n, c):
    """The change that undoes the change c, by its adjugate."""
    determinant = slow_det(n, c)
    found = []
    for i in range(n):
        for j in range(n):
            sign = -1 if (i + j) % 2 else 1
            found.append(sign * determinant * slow_det(n - 1, without(n, c, j, i)))
    return found


def times_rows(n, x, c):
    """The sum of the rows of c, each times its unknown."""
    return [sum(x[i] * c[i * n + j] for i in range(n)) for j in range(n)]


def mirrored_lists(n, numbers):
    """Every n rows of n of these numbers that are the same on both sides."""
    places = [(i, j) for i in range(n) for j in range(i + 1)]
    for chosen in product(numbers, repeat=len(places)):
        a = [0] * (n * n)
        for (i, j), number in zip(places, chosen):
            a[i * n + j] = a[j * n + i] = number
        yield a


def is_above_zero_in_box(n, a, reach):
    for x in product(range(-reach, reach + 1), repeat=n):
        if any(x) and value(n, a, x) <= 0:
            return False
    return True


class Numbers:
    """Whole numbers that jump about, the same at each run and on each Python."""

    def __init__(self, seed):
        self.state = seed

    def draw(self, least, greatest):
        self.state = (self.state * 6364136223846793005 + 1442695040888963407) % 2 ** 64
        return least + (self.state >> 33) % (greatest - least + 1)


def drawn_change(n, numbers, steps):
    """A change made of steps that add a row to another or take it away."""
    c = split(n, diagonal([1] * n))
    for step in range(steps if n > 1 else 0):
        i = numbers.draw(0, n - 1)
        j = (i + numbers.draw(1, n - 1)) % n
        sign = 1 - 2 * numbers.draw(0, 1)
        c[i] = [x + sign * y for x, y in zip(c[i], c[j])]
    return flat(c)


def put_ahead(n, c):
    """The change of two rows c as the first two of n rows; each other row stays."""
    rows = split(n, diagonal([1] * n))
    rows[0] = c[:2] + rows[0][2:]
    rows[1] = c[2:] + rows[1][2:]
    return flat(rows)


def drawn_in_bounds(n, own, seed, how_many):
    """Forms (or not) with these numbers in their own columns, changed, all numbers from -32 to 32."""
    numbers = Numbers(seed)
    kept = []
    for attempt in range(40 * how_many):
        a = changed(n, diagonal(own), drawn_change(n, numbers, numbers.draw(1, n + 2)))
        if max(abs(number) for number in a) <= 32:
            kept.append(a)
        if len(kept) == how_many:
            return kept
    raise AssertionError("too few lists in bounds")


def good_forms():
    """(n, form, determinant) for ordinary forms and edges in each n from 1 to 8."""
    found = []
    for n in SIZES:
        found.append((n, diagonal([1] * n), 1))
        found.append((n, diagonal([32] * n), 32 ** n))
        found.append((n, diagonal([1] * (n - 1) + [32]), 32))
        found.append((n, chain(n), n + 1))
        found.append((n, flat([[2 if i == j else 1 for j in range(n)] for i in range(n)]), n + 1))
        # Every number near its edge: 32 in the own column, 31 elsewhere.
        near = flat([[32 if i == j else 31 for j in range(n)] for i in range(n)])
        found.append((n, near, 31 * n + 1))
        for row_and_determinant in drawn_good(n):
            found.append(row_and_determinant)
    for n in range(4, 9):
        found.append((n, fork(n), 4))
    for n in range(6, 9):
        found.append((n, exceptional(n), 9 - n))
    found.append((2, [32, -31, -31, 32], 63))
    found.append((2, [1, 5, 5, 26], 1))
    found.append((2, [26, 5, 5, 1], 1))
    return found


def drawn_good(n):
    own = [i % 3 + 1 for i in range(n)]
    determinant = 1
    for number in own:
        determinant *= number
    return [(n, a, determinant) for a in drawn_in_bounds(n, own, n, 12)]


def with_number(a, at, number):
    return a[:at] + [number] + a[at + 1:]


def with_pair(n, a, i, j, number):
    return with_number(with_number(a, i * n + j, number), j * n + i, number)


def not_in_bounds():
    """(n, list) with a number below -32 or above 32, the same on both sides."""
    found = []
    for n in SIZES:
        base = diagonal([32] * n)
        for number in (33, -33, 34, 1000, -1000, GREATEST_INT, LEAST_INT):
            for i in range(n):
                for j in range(i + 1):
                    found.append((n, with_pair(n, base, i, j, number)))
        found.append((n, diagonal([33] * n)))
        found.append((n, diagonal([GREATEST_INT] * n)))
    return found


def not_mirrored():
    """(n, list) where one number differs from its other side, at each place."""
    found = []
    for n in range(2, 9):
        for base in (diagonal([1] * n), diagonal([32] * n), chain(n)):
            for i in range(n):
                for j in range(n):
                    if i != j:
                        at = i * n + j
                        found.append((n, with_number(base, at, base[at] + 1)))
                        found.append((n, with_number(base, at, -32)))
    return found


def not_above_zero():
    """(n, list) in bounds and mirrored, with a value of 0 or below at unknowns that are not all 0."""
    found = [
        (2, [1, 1, 1, 1]), (2, [1, -1, -1, 1]), (2, [1, 2, 2, 4]), (2, [1, 2, 2, 1]), (2, [2, 3, 3, 4]),
        (2, [0, 1, 1, 0]), (2, [0, 0, 0, 1]), (2, [1, 0, 0, 0]), (2, [0, 1, 1, 32]), (2, [-1, 0, 0, 1]),
        (2, [32, 32, 32, 32]), (2, [32, -32, -32, 32]), (2, [31, 31, 31, 31]), (2, [25, 20, 20, 16]),
        (3, [1, 0, 0, 0, 0, 1, 0, 1, 0]), (3, [1, 1, 0, 1, 1, 1, 0, 1, 1]), (5, star(5)),
    ]
    for n in SIZES:
        found.append((n, [0] * (n * n)))
        found.append((n, diagonal([-1] * n)))
        found.append((n, diagonal([-32] * n)))
        for i in range(n):
            for number in (0, -1, -32):
                found.append((n, with_pair(n, diagonal([1] * n), i, i, number)))
            for j in range(i):
                for number in (1, -1, 2, -32, 32):
                    found.append((n, with_pair(n, diagonal([1] * n), i, j, number)))
                # Two below 0 make the determinant be above 0 all the same.
                below = with_pair(n, diagonal([1] * n), i, i, -1)
                found.append((n, with_pair(n, below, j, j, -1)))
    for n in range(3, 9):
        found.append((n, ring(n)))
    for n in range(2, 9):
        for last in (0, -1):
            own = [i % 3 + 1 for i in range(n - 1)] + [last]
            for a in drawn_in_bounds(n, own, 100 + n, 12):
                found.append((n, a))
    return found


def not_forms():
    return not_in_bounds() + not_mirrored() + not_above_zero()


def some_of_each():
    """(n, list) of every second form in each n, and every seventh list that is no form."""
    return [(n, a) for n, a, determinant in good_forms()[::2]] + not_forms()[::7]
