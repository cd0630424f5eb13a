"""Refused values: the exception that is listed first, of its class alone, and nothing is changed by it.

Steps and other objects of the package stand where values of other kinds are asked for, also two faults at once.
"""

import unittest

import plain
from building import check_raises
from coarseviews.errors import NoDeed, NoEdge, NoLabels, NoMany, NoScale, NoSet, NoStep, NotBelow, NotClosed, NoText
from coarseviews.errors import OtherStates, TooMany
from coarseviews.scales import Scale
from coarseviews.steps import Choice, Guard, Loop, Sequence, Step
from coarseviews.views import coarsened, exact, refined, scales_between, shows

STEP = Step((1,), (2,), ())
PROGRAM = Sequence(STEP, Loop(STEP))
STEPS = (STEP, PROGRAM, Guard(3, (0,)), Choice(STEP), Loop(STEP))
NEITHER = (None, 0, 3, True, "", "states 1\n0\n", (), ((0,),), [], {}, 9999999999999, NoSet("no set"))
SCALES = (Scale(3), Scale.spans(3), Scale(3, ()), Scale(3, *plain.every_set(3)))


def all_between(low, high):
    return list(scales_between(low, high))


class StepsForOtherKindsTest(unittest.TestCase):
    """The methods of a scale with steps as arguments."""

    def setUp(self):
        self.scale = Scale(3, (0, 1), (1, 2))

    def tearDown(self):
        self.assertEqual(self.scale.allowed, ((1,), (0, 1), (1, 2), (0, 1, 2)))
        self.assertEqual((STEP.rows, STEP.parts), (((1,), (2,), ()), ()))
        self.assertEqual(PROGRAM.rows, ((1, 2), (2,), ()))

    def test_numbers_labels_and_texts(self):
        for step in STEPS:
            for call in (Scale, Scale.spans):
                check_raises(self, NoMany, call, step)
            check_raises(self, NoMany, Scale, step, step)
            check_raises(self, NoMany, Scale.is_set, step, step)
            check_raises(self, NoMany, Guard, step, step)
            check_raises(self, NoLabels, Scale.of_parts, step)
            check_raises(self, NoLabels, Scale.of_parts, (0, step))
            check_raises(self, NoText, Scale.read, step)
            check_raises(self, NoText, Step.read, step)
            self.assertIs(Scale.is_set(3, step), False)
            self.assertIs(Scale.is_set(3, (step,)), False)

    def test_sets(self):
        for step in STEPS:
            for thing in (step, (step,), (0, step), step.parts + (step,)):
                for call in (self.scale.round, self.scale.allows, self.scale.permit, self.scale.forbid,
                             self.scale.assign_allowed, STEP.apply, STEP.back):
                    check_raises(self, NoSet, call, thing)
                check_raises(self, NoSet, Scale, 3, thing)
                check_raises(self, NoSet, self.scale.permit, (0,), thing)
                check_raises(self, NoSet, Guard, 3, thing)
                with self.assertRaises(NoSet):
                    self.scale.allowed = thing
            check_raises(self, NoSet, self.scale.assign_allowed, ((0, 1, 2), step))

    def test_deeds(self):
        for step in STEPS:
            check_raises(self, NoDeed, self.scale.change, step)
            check_raises(self, NoDeed, self.scale.change, (step, (0,)))
            check_raises(self, NoDeed, self.scale.change, ("permit", (0,)), (step, step))
            for word in ("permit", "forbid", "allowed"):
                check_raises(self, NoSet, self.scale.change, (word, step))
                check_raises(self, NoSet, self.scale.change, ("permit", (0,)), (word, step), step)

    def test_scales(self):
        for step in STEPS + NEITHER + (Step((0,)),):
            check_raises(self, NoScale, self.scale.meet, step)
            check_raises(self, NoScale, self.scale.join, step)

    def test_equal(self):
        for other in STEPS + NEITHER + (self.scale.trial(), Step((0, 1), (1, 2), (1,))):
            self.assertIs(self.scale == other, False)
            self.assertIs(other == self.scale, False)
            self.assertIs(self.scale != other, True)
            self.assertIs(other != self.scale, True)

    def test_each_class_alone(self):
        check_raises(self, NoEdge, self.scale.forbid, (1,))
        check_raises(self, NoSet, self.scale.forbid, (1, 0))
        error = check_raises(self, NotClosed, self.scale.assign_allowed, ((1, 2), (0, 1), (0, 1, 2)))
        self.assertEqual((error.first, error.second), ((0, 1), (1, 2)))
        check_raises(self, NoSet, self.scale.assign_allowed, ((1, 2), (0, 1)))
        check_raises(self, OtherStates, self.scale.meet, Scale(2))


class RefusalOrderTest(unittest.TestCase):
    """Which exception comes first for the functions of views and for programs."""

    def setUp(self):
        self.before = [scale.allowed for scale in SCALES]

    def tearDown(self):
        self.assertEqual([scale.allowed for scale in SCALES], self.before)
        self.assertEqual([step.rows for step in STEPS], [
            ((1,), (2,), ()), ((1, 2), (2,), ()), ((0,), (), ()), ((1,), (2,), ()), ((0, 1, 2), (1, 2), (2,))])

    def calls(self):
        return (exact, lambda scale, step: shows(scale, step, None), refined, coarsened)

    def test_no_scale_first(self):
        for call in self.calls():
            for scale in NEITHER + STEPS:
                for step in (STEP, PROGRAM, Step((0,)), None, 3, SCALES[0]):
                    check_raises(self, NoScale, call, scale, step)

    def test_no_step_second(self):
        for call in self.calls():
            for scale in SCALES:
                for step in NEITHER + SCALES + ((STEP,), [STEP], STEP.rows, STEP.text(), Scale(1)):
                    check_raises(self, NoStep, call, scale, step)

    def test_other_states_last(self):
        for call in self.calls():
            for scale in (Scale(1), Scale(2), Scale.spans(4), Scale(7)):
                for step in STEPS:
                    check_raises(self, OtherStates, call, scale, step)

    def test_several_steps(self):
        other = Step((1,), (0,))
        for call in (refined, coarsened):
            for steps in ((STEP, None), (None, STEP), (other, None), (None, other), (STEP, other, STEP.rows)):
                check_raises(self, NoStep, call, SCALES[1], *steps)
                check_raises(self, NoScale, call, steps, *steps)
            for steps in ((STEP, other), (other, STEP), (other, other), (STEP, STEP, STEP, STEP, other)):
                check_raises(self, OtherStates, call, SCALES[1], *steps)
            check_raises(self, NoScale, call, STEP)
            check_raises(self, NoScale, call, None)

    def test_shows_looks_at_the_others_first(self):
        for thing in (None, ("exact", ()), ("lost", (0,), 1), STEP, SCALES[0]):
            check_raises(self, NoScale, shows, None, None, thing)
            check_raises(self, NoStep, shows, SCALES[0], None, thing)
            check_raises(self, OtherStates, shows, Scale(2), STEP, thing)

    def test_scales_between(self):
        for thing in NEITHER + STEPS:
            for other in (Scale(3), Scale(2), thing, None):
                check_raises(self, NoScale, all_between, thing, other)
                check_raises(self, NoScale, all_between, other, thing)
        for many in (1, 2, 4, 7):
            check_raises(self, OtherStates, all_between, Scale(3, ()), Scale(many))
            check_raises(self, OtherStates, all_between, Scale(many, *plain.every_set(many)), Scale(3))
            check_raises(self, OtherStates, all_between, Scale(many), SCALES[3])
        check_raises(self, NotBelow, all_between, Scale(3, ()), Scale(3, (0,)))
        check_raises(self, NotBelow, all_between, Scale(4, (2, 3)), Scale(4, *plain.every_set(4)[:6]))
        check_raises(self, NotBelow, all_between, Scale(5, (1, 2, 3, 4)), Scale(5, *plain.every_set(5)[:16]))
        error = check_raises(self, TooMany, all_between, Scale(4), Scale(4, *plain.every_set(4)))
        self.assertEqual((error.amount, error.limit), (15, 10))

    def test_programs(self):
        for kind in (Sequence, Choice):
            check_raises(self, NoStep, kind)
            check_raises(self, NoStep, kind, *[STEP] * 7)
            check_raises(self, NoStep, kind, STEP, Scale(3))
            check_raises(self, NoStep, kind, Step((0,)), STEP, None)
            check_raises(self, OtherStates, kind, STEP, Step((0,)))
        for thing in NEITHER + SCALES:
            check_raises(self, NoStep, Loop, thing)
            check_raises(self, NoStep, Sequence, thing)
            check_raises(self, NoStep, Choice, STEP, thing)
        check_raises(self, NoMany, Guard, 8, (9,))
        check_raises(self, NoMany, Guard, True, (1, 0))
        check_raises(self, NoSet, Guard, 1, (1,))
