"""Every call, and what is handed to it, by the names of its arguments."""

from formkeepdesk import forms
from tests import samples

ARGUMENTS = {
    "fm_good": ("n", "a"),
    "fm_det": ("n", "a"),
    "fm_count": ("n", "m", "a"),
    "fm_way": ("n", "m", "a"),
    "fm_least": ("n", "a"),
    "fm_same": ("n", "a", "b"),
    "fm_turns": ("n", "a"),
    "fm_first": ("n", "a"),
    "fm_truant": ("n", "a"),
}
# How many numbers stand in each answer that is no refusal, for n unknowns.
LENGTHS = {
    "fm_good": lambda n: 1,
    "fm_det": lambda n: 2,
    "fm_count": lambda n: 2,
    "fm_way": lambda n: n + 1,
    "fm_least": lambda n: 1,
    "fm_same": lambda n: 1,
    "fm_turns": lambda n: 1,
    "fm_first": lambda n: n * n + 1,
    "fm_truant": lambda n: 1,
}
UP_TO_FOUR = ("fm_same", "fm_turns", "fm_first")
VALUES = (0, 1, 64)


def greatest_size(name):
    return 4 if name in UP_TO_FOUR else 8


def answer(name, handed):
    return getattr(forms, name)(*handed)


def handed_in(name, n, a, values=VALUES):
    """All that the call is handed of these n and a: once for each m, on either side and on both."""
    if "m" in ARGUMENTS[name]:
        return [(n, m, list(a)) for m in values]
    if "b" in ARGUMENTS[name]:
        other = samples.diagonal([1] * n) if a else []
        return [(n, list(a), other), (n, other, list(a)), (n, list(a), list(a))]
    return [(n, list(a))]


def ordinary(name):
    """Much that may be handed in: forms, what is no form, wrong sizes and wrong values."""
    found = []
    for n, a in samples.some_of_each():
        found += handed_in(name, n, a, (-1, 0, 1, 2, 7, 65))
    for n in samples.WRONG_SIZES:
        found += handed_in(name, n, [], (-1, 0, 64))
    return found
