import doctest
import unittest
from pathlib import Path

# The session of point 1, word for word.
SESSION = """
>>> from coarseviews.scales import Scale
>>> from coarseviews.steps import Step
>>> from coarseviews.views import exact, refined
>>> spans = Scale.spans(4)
>>> spans.round((0, 3))
(0, 1, 2, 3)
>>> move = Step((1,), (2,), (3,), ())
>>> exact(spans, move)
('lost', (0, 3), 2)
>>> parity = Scale.of_parts((0, 1, 0, 1))
>>> turn = Step((1,), (2,), (3,), (0,))
>>> exact(parity, turn)
('exact', (((0, 2), (1, 3)), ((1, 3), (0, 2))))
>>> len(refined(Scale(3, (0, 1)), Step((1,), (2,), (0,))).allowed)
8
"""


class ReadmeTest(unittest.TestCase):

    def test_what_the_readme_shows(self):
        path = Path(__file__).resolve().parent.parent / "README.md"
        failures, tried = doctest.testfile(str(path), module_relative=False, verbose=False)
        self.assertEqual(failures, 0)
        self.assertGreater(tried, 0)

    def test_the_session_of_the_document(self):
        session = doctest.DocTestParser().get_doctest(SESSION, {}, "session", None, 0)
        failures, tried = doctest.DocTestRunner(verbose=False).run(session)
        self.assertEqual((failures, tried), (0, 11))
