"""The text of a scale, and the scale of a text."""

import unittest

import plain
from coarseviews.errors import NoText
from coarseviews.scales import Scale

SMALL = "states 3\n-\n0\n0 1\n0 1 2\n"


def written(many, allowed):
    """The text, by the words of the document."""
    text = "states " + str(many) + "\n"
    for states in allowed:
        text += (" ".join(str(state) for state in states) or "-") + "\n"
    return text


class TextTest(unittest.TestCase):

    def test_an_example(self):
        self.assertEqual(Scale(3, (0, 1), (1, 2)).text(), "states 3\n1\n0 1\n1 2\n0 1 2\n")
        self.assertEqual(Scale(3, (), (0,), (0, 1)).text(), SMALL)
        self.assertEqual(Scale(1).text(), "states 1\n0\n")
        self.assertEqual(Scale(1, ()).text(), "states 1\n-\n0\n")

    def test_there_and_back(self):
        for many in (1, 2, 3):
            for family in plain.families(many):
                self.check(many, family)
        for many in (4, 5, 6, 7):
            for sets in (plain.samples(many) if many < 7 else [(), ((0, 3, 6), (3, 5)), ((), (6,))]):
                self.check(many, plain.closed(many, sets))

    def check(self, many, family):
        text = Scale(many, *family).text()
        self.assertEqual(text, written(many, family))
        self.assertEqual(Scale.read(text), Scale(many, *family))
        self.assertEqual(Scale.read(text).many, many)
        self.assertEqual(Scale.read(text).allowed, family)

    def test_the_longest(self):
        scale = Scale(7, *plain.every_set(7))
        self.assertEqual(scale.text(), written(7, plain.every_set(7)))
        self.assertEqual(Scale.read(scale.text()), scale)

    def test_read_gives_a_new_scale(self):
        scale = Scale.read(SMALL)
        scale.permit((2,))
        self.assertEqual(Scale.read(SMALL).text(), SMALL)

    def refused(self, text):
        with self.assertRaises(NoText, msg=repr(text)):
            Scale.read(text)

    def test_no_text_at_all(self):
        for thing in (None, 0, 3, True, (), [], {}, SMALL.encode(), SMALL.split("\n"), (SMALL,), Scale(3)):
            self.refused(thing)

    def test_refused(self):
        for text in ("", "\n", "states", "states\n", "states \n", "states 3", "states 3\n", "0 1 2\n", "states 0\n",
                     "states 0\n-\n", "states 8\n0 1 2 3 4 5 6 7\n", "states 03\n0 1 2\n", "states 3 \n0 1 2\n",
                     "states  3\n0 1 2\n", " states 3\n0 1 2\n", "States 3\n0 1 2\n", "states +3\n0 1 2\n",
                     "states -3\n0 1 2\n", "states three\n0 1 2\n", "states 3\n0 1 2", "states 3\n0 1 2\n\n",
                     "states 3\n\n0 1 2\n", "\nstates 3\n0 1 2\n", "states 3\n0  1 2\n", "states 3\n0 1 2 \n",
                     "states 3\n 0 1 2\n", "states 3\n012\n", "states 3\n0,1,2\n", "states 3\n0 1 2\nx\n",
                     "states 3\n2 1 0\n", "states 3\n0 1 2 3\n", "states 3\n0 1\n", "states 3\n0 1 2\n0 1\n",
                     "states 3\n0 1\n0 1\n0 1 2\n", "states 3\n0 1 2\n0 1 2\n", "states 3\n0 1\n1 2\n0 1 2\n",
                     "states 3\n0\n-\n0 1 2\n", "states 3\n1\n0\n-\n0 1 2\n", "states 3\n-\n-\n0 1 2\n",
                     "states 3\n- \n0 1 2\n", "states 3\n()\n0 1 2\n", "states 3\n00\n0 1 2\n", "states 3\n3\n0 1 2\n",
                     "states 3\n-1\n0 1 2\n", "states 3\n+0\n0 1 2\n", "states 3\n0 0\n0 1 2\n",
                     "states 3\n1 0\n0 1 2\n", "states 3\r\n0 1 2\r\n", "states 3\n0 1 2\nstates 3\n0 1 2\n",
                     "states 2\n0 1 2\n", "states 4\n0 1 2\n", "states 1\n0\n1\n", "states 3 0 1 2\n"):
            self.refused(text)

    def test_one_character_changed(self):
        self.assertEqual(Scale.read(SMALL).text(), SMALL)
        right = {written(3, family) for family in plain.families(3)}
        for at in range(len(SMALL)):
            for other in ("", " ", "\n", "0", "1", "2", "3", "-", "x", SMALL[at] * 2):
                text = SMALL[:at] + other + SMALL[at + 1:]
                if text in right:
                    self.assertEqual(Scale.read(text).text(), text)
                else:
                    self.refused(text)

    def test_lines_in_any_choice(self):
        lines = [line + "\n" for line in written(2, plain.every_set(2)).split("\n")[1:-1]]
        right = {written(2, family) for family in plain.families(2)}
        for bits in range(16):
            chosen = [line for at, line in enumerate(lines) if bits >> at & 1]
            for order in (chosen, chosen[::-1], chosen + chosen):
                text = "states 2\n" + "".join(order)
                if text in right:
                    self.assertEqual(Scale.read(text).text(), text)
                else:
                    self.refused(text)
