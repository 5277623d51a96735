"""The calls on whole-number forms.

Each call takes numbers and lists and answers a new list; a refusal is its number alone.
"""

from formkeepdesk.elimination import split_rows, top_rows
from formkeepdesk.firsts import first_of_same
from formkeepdesk.reduction import reduced_columns
from formkeepdesk.ways import least_missed, least_value, ways_to

OUT_OF_RANGE = -2
NOT_A_FORM = -1
NO_WAY = -6

MOST_UNKNOWNS = 8
MOST_UNKNOWNS_CHANGED = 4
MOST_VALUE = 64
MOST_MISSED = 15
GREATEST_NUMBER = 32


def fm_good(n, a):
    """Answer 1 if a is a form in n unknowns, 0 if it isn't."""
    if not is_size(n):
        return [OUT_OF_RANGE]
    if not is_form(n, a):
        return [0]
    return [1]


def fm_det(n, a):
    """Answer 0, then the determinant of the form a."""
    if not is_size(n):
        return [OUT_OF_RANGE]
    if not is_form(n, a):
        return [NOT_A_FORM]
    return [0, last_corner(n, a)]


def fm_count(n, m, a):
    """Answer 0, then in how many ways m is a value of the form a."""
    if not is_size(n) or not is_countable(m):
        return [OUT_OF_RANGE]
    if not is_form(n, a):
        return [NOT_A_FORM]
    return [0, ways_to(n, reduced_columns(n, a), m)[0]]


def fm_way(n, m, a):
    """Answer 0, then the first unknowns at which m is the value of the form a."""
    if not is_size(n) or not is_countable(m):
        return [OUT_OF_RANGE]
    if not is_form(n, a):
        return [NOT_A_FORM]
    first = ways_to(n, reduced_columns(n, a), m)[1]
    if first is None:
        return [NO_WAY]
    return [0] + first


def fm_least(n, a):
    """Answer the least value above 0 of the form a."""
    if not is_size(n):
        return [OUT_OF_RANGE]
    if not is_form(n, a):
        return [NOT_A_FORM]
    return [least_value(n, reduced_columns(n, a))]


def fm_same(n, a, b):
    """Answer 1 if the forms a and b are the same, 0 if they aren't."""
    if not is_size_changed(n):
        return [OUT_OF_RANGE]
    if not is_form(n, a) or not is_form(n, b):
        return [NOT_A_FORM]
    # Forms that are the same have one first form, and each is the same as its first.
    if first_of_same(n, a)[0] == first_of_same(n, b)[0]:
        return [1]
    return [0]


def fm_turns(n, a):
    """Answer how many changes leave the form a as it is."""
    if not is_size_changed(n):
        return [OUT_OF_RANGE]
    if not is_form(n, a):
        return [NOT_A_FORM]
    # A change to the first form, put behind each change that leaves a, gives every change to it once.
    return [first_of_same(n, a)[1]]


def fm_first(n, a):
    """Answer 0, then the first of all forms that are the same as a."""
    if not is_size_changed(n):
        return [OUT_OF_RANGE]
    if not is_form(n, a):
        return [NOT_A_FORM]
    return [0] + first_of_same(n, a)[0]


def fm_truant(n, a):
    """Answer the least of 1 to 15 that isn't a value of the form a, 0 if all are."""
    if not is_size(n):
        return [OUT_OF_RANGE]
    if not is_form(n, a):
        return [NOT_A_FORM]
    return [least_missed(n, reduced_columns(n, a), MOST_MISSED)]


def is_size(n):
    return 1 <= n <= MOST_UNKNOWNS


def is_size_changed(n):
    """Tell whether changes of forms in n unknowns are asked for."""
    return 1 <= n <= MOST_UNKNOWNS_CHANGED


def is_countable(m):
    return 0 <= m <= MOST_VALUE


def is_form(n, a):
    return is_in_bounds(a) and is_mirrored(n, a) and is_above_zero(n, a)


def is_in_bounds(a):
    return min(a) >= -GREATEST_NUMBER and max(a) <= GREATEST_NUMBER


def is_mirrored(n, a):
    for i in range(n):
        for j in range(i):
            if a[i * n + j] != a[j * n + i]:
                return False
    return True


def is_above_zero(n, a):
    """Tell whether the value is above 0 wherever some unknown isn't 0; a is mirrored."""
    # It is so just where every leading determinant is above 0. That holds for whole unknowns as it does
    # for fractions: where the value is not above 0 at some fractions, a multiple of these is whole.
    # The elimination stops at the first that isn't above 0, so the last one tells of them all.
    return last_corner(n, a) > 0


def last_corner(n, a):
    return top_rows(split_rows(n, a))[-1][0]
