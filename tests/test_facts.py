"""The facts of point 90, each held against scales and steps of many kinds."""

import unittest

import plain
import plain_steps
from building import build, scale_of
from coarseviews.scales import Scale
from coarseviews.steps import Choice, Guard, Loop, Sequence, Step
from coarseviews.views import exact, refined

# A basic step of a plan.
BASIC = ("step", "guard")


def is_exact(scale, step):
    return exact(scale, step)[0] == "exact"


def basic_plans(plan):
    if plan[0] in BASIC:
        return [plan]
    return [basic for part in plan[1:] for basic in basic_plans(part)]


def scale_for(allowed, plans):
    """A scale on which all these are exact."""
    return refined(scale_of(allowed), *[build(plan) for plan in plans])


class ExactPartsTest(unittest.TestCase):

    def test_sequences_choices_and_loops_of_exact_steps(self):
        numbers = plain_steps.Numbers(90)
        for at in range(120):
            many = 1 + at % 7
            plans = [numbers.some_plan(many, 1) for _ in range(2)]
            scale = scale_for(numbers.some_allowed(many), plans)
            one, two = [build(plan) for plan in plans]
            for step in (one, two, Sequence(one, two), Sequence(two, one), Choice(one, two), Loop(one), Loop(two),
                         Loop(Choice(one, Sequence(two, one)))):
                self.assertTrue(is_exact(scale, step))

    def test_all_exact_steps_of_two_states(self):
        every = plain.every_set(2)
        for allowed in plain.families(2):
            scale = scale_of(allowed)
            good = [Step(one, two) for one in every for two in every if plain_steps.is_exact(allowed, (one, two))]
            for one in good:
                self.assertTrue(is_exact(scale, Loop(one)))
                for two in good:
                    self.assertTrue(is_exact(scale, Sequence(one, two)))
                    self.assertTrue(is_exact(scale, Choice(one, two)))

    def test_the_other_direction_fails(self):
        spans = Scale.spans(4)
        move, nothing = Step((1,), (2,), (3,), ()), Guard(4, ())
        self.assertFalse(is_exact(spans, move))
        self.assertTrue(is_exact(spans, Sequence(move, nothing)))
        self.assertEqual(Sequence(move, nothing).first_loss(spans, (0, 3)), ((0,), (0, 3)))
        # Neither is exact, since 0 alone is allowed and 1 and 2 are not.
        one, two = Step((1,), (0,), (2,)), Step((2,), (1,), (0,))
        scale = Scale(3, (0,), ())
        self.assertFalse(is_exact(scale, one) or is_exact(scale, two))
        for step in (Sequence(one, one), Choice(one, two), Loop(Choice(one, two))):
            self.assertTrue(is_exact(scale, step))


class RunsTest(unittest.TestCase):

    def test_no_loss_where_all_basic_steps_are_exact(self):
        numbers = plain_steps.Numbers(91)
        for at in range(100):
            many = 1 + at % 5
            plan = numbers.some_plan(many, 3)
            scale = scale_for(numbers.some_allowed(many), basic_plans(plan))
            step = build(plan)
            for states in plain.every_set(many):
                self.assertIsNone(step.first_loss(scale, states))
                self.assertEqual(step.coarse(scale, states), scale.round(step.apply(states)))

    def test_the_coarse_run_without_a_loss(self):
        numbers = plain_steps.Numbers(92)
        seen = [0, 0]
        for at in range(400):
            many = 2 + at % 4
            scale, step = scale_of(numbers.some_allowed(many)), build(numbers.some_plan(many, 3))
            for states in plain.every_set(many):
                without = step.first_loss(scale, states) is None
                seen[without] += 1
                if without:
                    self.assertEqual(step.coarse(scale, states), scale.round(step.apply(states)))
        self.assertGreater(min(seen), 500)

    def test_all_steps_are_exact_where_every_set_is_allowed(self):
        numbers = plain_steps.Numbers(93)
        for many in range(1, 8):
            every = Scale(many, *plain.every_set(many))
            for _ in range(3):
                step = build(numbers.some_plan(many, 3))
                self.assertTrue(is_exact(every, step))
                for states in plain.every_set(many)[::5]:
                    self.assertIsNone(step.first_loss(every, states))
                    self.assertEqual(step.coarse(every, states), step.apply(states))


class TwoScalesTest(unittest.TestCase):

    def test_all_pairs_of_two_states(self):
        every = plain.every_set(2)
        families = list(plain.families(2))
        for one in every:
            for two in every:
                good = [scale_of(allowed) for allowed in families if plain_steps.is_exact(allowed, (one, two))]
                for first in good:
                    for second in good:
                        self.assertTrue(is_exact(first.meet(second), Step(one, two)))
                        self.assertTrue(is_exact(first.join(second), Step(one, two)))

    def test_pairs_of_three_states(self):
        families = list(plain.families(3))
        numbers = plain_steps.Numbers(94)
        for _ in range(12):
            rows = numbers.some_rows(3)
            good = [scale_of(allowed) for allowed in families if plain_steps.is_exact(allowed, rows)]
            for first in good[::2]:
                for second in good[1::3]:
                    self.assertTrue(is_exact(first.meet(second), Step(*rows)))
                    self.assertTrue(is_exact(first.join(second), Step(*rows)))

    def test_larger_ones(self):
        numbers = plain_steps.Numbers(95)
        for at in range(60):
            many = 4 + at % 4
            plan = numbers.some_plan(many, 2)
            first, second = [scale_for(numbers.some_allowed(many), [plan]) for _ in range(2)]
            step = build(plan)
            for scale in (first.meet(second), first.join(second)):
                self.assertTrue(is_exact(scale, step))
                self.assertTrue(plain_steps.is_exact(scale.allowed, step.rows))


class PartsTest(unittest.TestCase):

    def check(self, labels, rows):
        into = {}
        for state, row in enumerate(rows):
            into.setdefault(labels[state], set()).add(frozenset(labels[other] for other in row))
        same = all(len(found) == 1 for found in into.values())
        self.assertIs(is_exact(Scale.of_parts(labels), Step(*rows)), same, (labels, rows))
        return same

    def test_all_steps_of_three_states(self):
        every = plain.every_set(3)
        for labels in ((0, 0, 0), (0, 0, 1), (0, 1, 0), (1, 0, 0), (0, 1, 2)):
            found = [self.check(labels, (one, two, three)) for one in every for two in every for three in every]
            self.assertIn(True, found)
            self.assertIs(False in found, labels != (0, 1, 2))

    def test_more_states(self):
        numbers = plain_steps.Numbers(96)
        found = []
        for at in range(400):
            many = 4 + at % 4
            labels = tuple(numbers.below(3) for _ in range(many))
            rows = list(numbers.some_rows(many))
            if at % 2:
                # Each state is sent as the first one of its part, but for the choice of states in the parts.
                rows = [rows[labels.index(label)] for label in labels]
                rows = [tuple(sorted({numbers.pick([one for one in range(many) if labels[one] == labels[other]])
                                      for other in row})) for row in rows]
            found.append(self.check(labels, tuple(rows)))
        self.assertGreater(found.count(True), 50)
        self.assertGreater(found.count(False), 50)

    def test_not_to_the_same_states(self):
        self.assertTrue(is_exact(Scale.of_parts((0, 0, 1, 1)), Step((2,), (3,), (0, 1), (1,))))
        self.assertFalse(is_exact(Scale.of_parts((0, 0, 1, 1)), Step((2,), (0, 3), (0, 1), (1,))))
        self.assertFalse(is_exact(Scale.of_parts((0, 0, 1, 1)), Step((2,), (), (0, 1), (1,))))
