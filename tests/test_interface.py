"""What the interface says of every call, whatever it answers."""

import contextlib
import copy
import inspect
import io
import unittest

from formkeepdesk import forms
from tests import calls, samples


def watched(handed):
    return [samples.WatchedList(part) if isinstance(part, list) else part for part in handed]


class Interface(unittest.TestCase):
    def test_names_of_the_arguments(self):
        for name, arguments in calls.ARGUMENTS.items():
            call = getattr(forms, name)
            self.assertEqual(tuple(inspect.signature(call).parameters), arguments)
            for handed in calls.handed_in(name, 1, [5]):
                self.assertEqual(call(**dict(zip(arguments, handed))), call(*handed))

    def test_answers_are_lists_of_whole_numbers_and_nothing_is_printed(self):
        out = io.StringIO()
        with contextlib.redirect_stdout(out), contextlib.redirect_stderr(out):
            for name in calls.ARGUMENTS:
                for handed in calls.ordinary(name):
                    self.check_answer(name, handed, calls.answer(name, handed))
        self.assertEqual(out.getvalue(), "")

    def check_answer(self, name, handed, answer):
        self.assertIs(type(answer), list)
        for number in answer:
            self.assertIs(type(number), int)
        wanted = calls.LENGTHS[name](handed[0]) if answer[0] >= 0 else 1
        self.assertEqual(len(answer), wanted, (name, handed))

    def test_what_is_handed_in_is_not_changed(self):
        for name in calls.ARGUMENTS:
            for handed in calls.ordinary(name):
                before = copy.deepcopy(handed)
                calls.answer(name, handed)
                self.assertEqual(handed, before)
                calls.answer(name, watched(handed))

    def test_nothing_is_kept_between_calls(self):
        for name in calls.ARGUMENTS:
            every = calls.ordinary(name)
            first = [calls.answer(name, handed) for handed in every]
            wanted = [list(answer) for answer in first]
            for answer in first:
                answer.append(99)
            again = [calls.answer(name, handed) for handed in reversed(every)]
            self.assertEqual(list(reversed(again)), wanted)

    def test_answers_are_alike_whatever_was_called_before(self):
        asked = [(name, handed) for name in calls.ARGUMENTS for handed in calls.ordinary(name)[::9]]
        wanted = [calls.answer(name, handed) for name, handed in asked]
        # 7 steps at a time: calls of every name and size come behind one another.
        order = [at for start in range(7) for at in range(start, len(asked), 7)]
        for at in order[::-1]:
            name, handed = asked[at]
            self.assertEqual(calls.answer(name, handed), wanted[at], asked[at])

    def test_the_calls_of_the_document_are_there(self):
        there = [name for name in vars(forms) if name.startswith("fm_")]
        self.assertEqual(sorted(there), sorted(calls.ARGUMENTS))

    def test_a_list_changed_by_its_owner_is_read_anew(self):
        a = [2, 1, 1, 2]
        self.assertEqual(forms.fm_det(2, a), [0, 3])
        self.assertEqual(forms.fm_count(2, 2, a), [0, 6])
        a[0] = 5
        self.assertEqual(forms.fm_det(2, a), [0, 9])
        self.assertEqual(forms.fm_count(2, 2, a), [0, 2])
        a[1] = 0
        self.assertEqual(forms.fm_det(2, a), [-1])
        self.assertEqual(forms.fm_good(2, a), [0])
