"""What the interface says of every call, whatever it answers."""

import contextlib
import inspect
import io
import unittest

from formkeepdesk import forms
from tests import samples

CALLS = (forms.fm_good, forms.fm_det)


def handed_in():
    found = [(n, a) for n, a, determinant in samples.good_forms()]
    found += samples.not_forms()
    found += [(n, []) for n in samples.WRONG_SIZES]
    return found


class Interface(unittest.TestCase):
    def test_names_of_the_arguments(self):
        for call in CALLS:
            self.assertEqual(list(inspect.signature(call).parameters), ["n", "a"])
            self.assertEqual(call(n=1, a=[5]), call(1, [5]))

    def test_answers_are_lists_of_whole_numbers(self):
        for call in CALLS:
            for n, a in handed_in():
                answer = call(n, a)
                self.assertIs(type(answer), list)
                for number in answer:
                    self.assertIs(type(number), int)

    def test_lengths_of_the_answers(self):
        for n, a in handed_in():
            self.assertEqual(len(forms.fm_good(n, a)), 1)
            answer = forms.fm_det(n, a)
            self.assertEqual(len(answer), 2 if answer[0] == 0 else 1)

    def test_what_is_handed_in_is_not_changed(self):
        for call in CALLS:
            for n, a in handed_in():
                before = list(a)
                call(n, a)
                self.assertEqual(a, before)
                call(n, samples.WatchedList(a))

    def test_nothing_is_kept_between_calls(self):
        for call in CALLS:
            lists = handed_in()
            first = [call(n, a) for n, a in lists]
            wanted = [list(answer) for answer in first]
            for answer in first:
                answer.append(99)
            again = [call(n, a) for n, a in reversed(lists)]
            self.assertEqual(list(reversed(again)), wanted)

    def test_a_list_changed_by_its_owner_is_read_anew(self):
        a = [2, 1, 1, 2]
        self.assertEqual(forms.fm_det(2, a), [0, 3])
        a[0] = 5
        self.assertEqual(forms.fm_det(2, a), [0, 9])
        a[1] = 0
        self.assertEqual(forms.fm_det(2, a), [-1])
        self.assertEqual(forms.fm_good(2, a), [0])

    def test_nothing_is_printed(self):
        out = io.StringIO()
        with contextlib.redirect_stdout(out), contextlib.redirect_stderr(out):
            for call in CALLS:
                for n, a in handed_in():
                    call(n, a)
        self.assertEqual(out.getvalue(), "")
