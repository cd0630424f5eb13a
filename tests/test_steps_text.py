"""The text of a step or program, and the step of a text."""

import unittest

import plain
import plain_steps
from building import build, check_raises
from coarseviews.errors import NoText
from coarseviews.scales import Scale
from coarseviews.steps import Choice, Guard, Loop, Sequence, Step

SMALL = "0: 1 2\n1: -\n2: 0 1 2\n"
SIGNS = " \n0123789:-+x"


def written(rows):
    """The text, by the words of the document."""
    return "".join(str(state) + ": " + (" ".join(str(one) for one in row) or "-") + "\n"
                   for state, row in enumerate(rows))


def all_texts(many):
    """The text of each step of so many states, with its rows."""
    every = plain.every_set(many)
    found = [()]
    for _ in range(many):
        found = [rows + (row,) for rows in found for row in every]
    return {written(rows): rows for rows in found}


class TextTest(unittest.TestCase):

    def test_the_example(self):
        self.assertEqual(Step((1, 2), (), (0, 1, 2)).text(), SMALL)
        self.assertEqual(Step(()).text(), "0: -\n")
        self.assertEqual(Step((0,)).text(), "0: 0\n")
        self.assertEqual(Guard(2, (1,)).text(), "0: -\n1: 1\n")
        self.assertEqual(Loop(Step((1,), ())).text(), "0: 0 1\n1: 1\n")
        self.assertEqual(Sequence(Step((1,), (0,)), Step((0, 1), ())).text(), "0: -\n1: 0 1\n")
        self.assertEqual(Choice(Step((1,), (0,)), Step((0,), ())).text(), "0: 0 1\n1: 0\n")

    def check(self, step):
        text = step.text()
        self.assertEqual(text, written(step.rows))
        self.assertIs(type(text), str)
        for kind in (Step, Guard, Loop):
            read = kind.read(text)
            self.assertIs(type(read), Step)
            self.assertEqual((read.rows, read.many, read.parts, read.text()), (step.rows, step.many, (), text))

    def test_there_and_back(self):
        for many in (1, 2, 3):
            for rows in all_texts(many).values():
                self.check(Step(*rows))
        numbers = plain_steps.Numbers(17)
        for many in range(1, 8):
            for _ in range(15):
                self.check(build(numbers.some_plan(many, 3)))
            self.check(Step(*[tuple(range(many))] * many))

    def refused(self, text):
        check_raises(self, NoText, Step.read, text)

    def test_no_text_at_all(self):
        for thing in (None, 0, 1, True, (), [], {}, SMALL.encode(), SMALL.split("\n"), (SMALL,), [SMALL], {SMALL: 0},
                      Scale(3), Step((0,)), ((1, 2), (), (0, 1, 2))):
            self.refused(thing)

    def test_refused(self):
        for text in ("", "\n", "0", "0:", "0: ", "0: -", "0:-\n", "0 -\n", "0: \n", "0:\n", "0: -\n\n", "\n0: -\n",
                     "0: -\n1: -", "0: 1\n", "1: -\n", "0: -\n2: -\n", "1: -\n0: -\n", "0: -\n0: -\n",
                     "00: -\n", "+0: -\n", "-0: -\n", " 0: -\n", "0 : -\n", "0:  -\n", "0: - \n", "0: 0 \n",
                     "0: 00\n", "0: +0\n", "0: -0\n", "0: 0 0\n", "0: 0,1\n1: -\n", "0: 1 0\n1: -\n",
                     "0: 01\n1: -\n", "0: 0  1\n1: -\n", "0: - 0\n1: -\n", "0: 0 -\n1: -\n", "0: ()\n1: -\n",
                     "0: 0 1\r\n1: -\r\n", "0: 0\n\n1: 1\n", "0: 0\n1: 1\n\n", "states 1\n0\n", "states 1\n0: 0\n",
                     "0: 0\n1: 1\n3: -\n", "0: 2\n1: -\n", "a: -\n", "0; -\n", "0: x\n", "0. -\n", "0: -\t\n",
                     written([()] * 8), written([(7,)] + [()] * 7), written([()] * 9), "0: -\n" * 200):
            self.refused(text)

    def test_every_short_text(self):
        right = all_texts(1)
        for text in [one + two for one in SIGNS for two in SIGNS] + ["0: " + one + "\n" for one in SIGNS]:
            self.check_text(text, right)

    def check_text(self, text, right):
        if text in right:
            self.assertEqual(Step.read(text).rows, right[text])
        else:
            self.refused(text)

    def test_one_sign_otherwise(self):
        right = {**all_texts(1), **all_texts(2), **all_texts(3)}
        for text in (SMALL, "0: -\n1: 0 1\n", "0: 0\n1: 0\n2: 2\n"):
            for at in range(len(text) + 1):
                for sign in SIGNS:
                    self.check_text(text[:at] + sign + text[at + 1:], right)
                    self.check_text(text[:at] + sign + text[at:], right)
                self.check_text(text[:at] + text[at + 1:], right)
                self.check_text(text[:at], right)

    def test_two_signs_otherwise(self):
        right = {**all_texts(1), **all_texts(2), **all_texts(3)}
        text = "0: -\n1: 0 1\n"
        for first in range(len(text)):
            for second in range(first):
                for one in ("", " ", "0", "1", "-", "\n", text[first] * 2):
                    for two in ("", " ", "0", "1", "-", "\n"):
                        changed = text[:second] + two + text[second + 1:first] + one + text[first + 1:]
                        self.check_text(changed, right)

    def test_lines_left_out_doubled_or_exchanged(self):
        right = {**all_texts(1), **all_texts(2), **all_texts(3)}
        for rows in (((1, 2), (), (0, 1, 2)), ((), (), ()), ((0,), (1,), (0, 1)), ((2,), (1,), (0,))):
            lines = [line + "\n" for line in written(rows).split("\n")[:-1]]
            for first in range(4):
                self.check_text("".join(lines[:first] + lines[first + 1:]), right)
                for second in range(3):
                    self.check_text("".join(lines[:first] + [lines[second]] + lines[first:]), right)
                    other = list(lines)
                    other[second], other[first % 3] = other[first % 3], other[second]
                    self.check_text("".join(other), right)
