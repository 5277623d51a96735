"""In how many ways a number is a form's value, and the first of these ways.

The numbers of the later rows are chosen first. What the others may add to such a choice is told by its
settled columns alone, and few of these differ: so that is looked up once for each, not for each choice.
"""

from formkeepdesk.choices import empty_choice, grown_choices
from formkeepdesk.reduction import settle


def ways_to(n, columns, m):
    """How many ways there are to m, and the first of them, None if there is none."""
    middle = n // 2
    corner = columns[middle - 1][-1] if middle > 0 else 1
    later = grown_choices(n, columns, empty_choice(n), middle, m)
    total = 0
    first = None
    for sums, alike in alike_choices(n, columns[:middle], later).items():
        least = min([spent for spent, way in alike])
        found = ways_by_value(n, columns, (least, [0] * n + list(sums)), m)
        for spent, way in alike:
            # Alike choices differ in value by a whole number, so the corner leaves no rest here.
            value = m - (spent - least) // corner
            if value in found:
                total += found[value][0]
                first = earlier(first, added(way, found[value][1]))
    return (total, first)


def least_value(n, columns):
    """The least value above 0."""
    m = 1
    while ways_to(n, columns, m)[0] == 0:
        m += 1
    return m


def least_missed(n, columns, most):
    """The least number from 1 to most that is no value, 0 if all are values."""
    for m in range(1, most + 1):
        if ways_to(n, columns, m)[0] == 0:
            return m
    return 0


def alike_choices(n, columns, choices):
    """Spent and way of each choice, by its settled sums."""
    alike = {}
    for spent, marks in choices:
        settled = settle(columns, marks)
        alike.setdefault(tuple(settled[n:]), []).append((spent, settled[:n]))
    return alike


def ways_by_value(n, columns, choice, most):
    """By value up to most: in how many ways the choice can be ended, and the first of them."""
    found = {}
    for value, way in grown_choices(n, columns, choice, 0, most):
        known = found.get(value, (0, None))
        found[value] = (known[0] + 1, earlier(known[1], way))
    return found


def earlier(first, way):
    return way if first is None or way < first else first


def added(left, right):
    return [x + y for x, y in zip(left, right)]
