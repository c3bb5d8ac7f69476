"""README.md tells of all eight calls, and its example answers as it says."""

import ast
import pathlib
import re
import unittest

from groupqueue.runs import answers

TEXT = (pathlib.Path(__file__).resolve().parent.parent / "README.md").read_text(encoding="utf-8")
CALLS = ("begins", "group", "submit", "ended", "cancel", "stand", "why", "members")


class Readme(unittest.TestCase):
    def test_each_call_with_its_number(self):
        for number, name in enumerate(CALLS):
            self.assertRegex(TEXT, rf"(?m)^\| {name} \| {number}[ ,]")

    def test_what_each_call_refuses(self):
        for name, refusals in (("begins", "-1"), ("group", "-2 -3 -1"), ("submit", "-1 -7"), ("ended", "-2 -5"),
                               ("cancel", "-2 -4 -5"), ("stand", ""), ("why", "-2 -5"), ("members", "-2")):
            row = re.search(rf"(?m)^\| {name} \| (never|-.*) \|$", TEXT)
            self.assertIsNotNone(row, name)
            self.assertEqual(re.findall(r"-\d", row.group(1)), refusals.split())

    def test_where_a_run_stands(self):
        place = TEXT.index("Where a run stands")
        self.assertEqual(re.findall(r"\d", TEXT[place:].split("\n\n")[0]), list("01234567"))

    def test_the_example(self):
        block = re.search(r"```python\n(.*?)```", TEXT, re.DOTALL).group(1)
        calls = re.search(r"answers\((\[.*?\])\)", block, re.DOTALL).group(1)
        told = "".join(re.findall(r"(?m)^# (.*)$", block))
        self.assertEqual(answers(ast.literal_eval(calls)), ast.literal_eval(told))


if __name__ == "__main__":
    unittest.main()
