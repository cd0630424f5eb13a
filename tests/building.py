"""Steps of the package, made by the plans of plain_steps."""

from coarseviews.scales import Scale
from coarseviews.steps import Choice, Guard, Loop, Sequence, Step

KINDS = {"sequence": Sequence, "choice": Choice, "loop": Loop}


def build(plan):
    word, *parts = plan
    if word == "step":
        return Step(*parts)
    if word == "guard":
        return Guard(*parts)
    return KINDS[word](*[build(part) for part in parts])


def scale_of(allowed):
    """The scale that allows these sets."""
    return Scale(len(allowed[-1]), *allowed)


def raised(call, *given):
    """The exception that a call raises, or None."""
    try:
        call(*given)
    except Exception as error:
        return error
    return None


def check_raises(test, kind, call, *given):
    """The exception must be of this class itself."""
    error = raised(call, *given)
    test.assertIs(error and type(error), kind, (call, given))
    return error
