"""What README.md shows is what the program answers."""

import ast
import pathlib
import re
import unittest

from formkeepdesk import forms

README = pathlib.Path(__file__).parent.parent / "README.md"


class Readme(unittest.TestCase):
    def test_examples(self):
        examples = re.findall(r"^(fm_\w+)(\(.*\)) +# (\[.*?\])", README.read_text(encoding="utf-8"), re.MULTILINE)
        self.assertGreater(len(examples), 5)
        for name, handed, shown in examples:
            with self.subTest(name=name, handed=handed):
                self.assertEqual(getattr(forms, name)(*ast.literal_eval(handed)), ast.literal_eval(shown))
