"""Runs of steps and programs: coarse and first_loss."""

import unittest

import plain
import plain_steps
from building import build, check_raises, scale_of
from coarseviews.errors import NoScale, NoSet, OtherStates
from coarseviews.scales import Scale
from coarseviews.steps import Choice, Guard, Loop, Sequence, Step

SPANS = Scale.spans(4)
MOVE = Step((1,), (2,), (3,), ())
STAY = Guard(4, (0, 1, 2, 3))
TURN = Step((1,), (2,), (3,), (0,))
# Spans go to spans, so that nothing is lost on them.
MIRROR = Step((3,), (2,), (1,), (0,))
# A loop from 0 reaches 0, then 0 and 1, and then 0, 1 and 3, which is the first set here that is not allowed.
ROUND = Step((1,), (3,), (0,), (2,))
CHAIN = Scale(4, (0,), (0, 1), (1,), (3,), (1, 3), (1, 2, 3))


class CoarseTest(unittest.TestCase):

    def check(self, allowed, plan):
        scale, step = scale_of(allowed), build(plan)
        whole = plain_steps.rows_of(plan)
        for states in plain.every_set(scale.many):
            found = step.coarse(scale, states)
            self.assertEqual(found, plain_steps.coarse(allowed, plan, states))
            self.assertIs(type(found), tuple)
            self.assertIn(found, allowed)
            self.assertEqual(found, step.coarse(scale, scale.round(states)))
            self.assertTrue(plain.within(scale.round(plain_steps.applied(whole, states)), found))
        self.assertEqual((scale.allowed, step.rows), (allowed, whole))

    def test_basic_steps(self):
        numbers = plain_steps.Numbers(40)
        for many in range(1, 8):
            for _ in range(6):
                self.check(numbers.some_allowed(many), numbers.some_plan(many, 0))
        self.assertEqual(MOVE.coarse(SPANS, (0, 3)), (1, 2, 3))
        self.assertEqual(MOVE.coarse(SPANS, ()), ())
        self.assertEqual(MOVE.coarse(Scale(4), ()), (0, 1, 2, 3))
        self.assertEqual(Guard(4, (0, 3)).coarse(SPANS, (0, 1)), (0,))
        self.assertEqual(Guard(4, (0, 3)).coarse(SPANS, (0, 3)), (0, 1, 2, 3))

    def test_programs(self):
        numbers = plain_steps.Numbers(41)
        for at in range(260):
            self.check(numbers.some_allowed(2 + at % 4), numbers.some_plan(2 + at % 4, 1 + at % 4))
        for many in (1, 6, 7):
            for _ in range(4):
                self.check(numbers.some_allowed(many), numbers.some_plan(many, 4))

    def test_the_same_from_more_is_not_less(self):
        numbers = plain_steps.Numbers(42)
        for at in range(60):
            many = 2 + at % 3
            scale, step = scale_of(numbers.some_allowed(many)), build(numbers.some_plan(many, 3))
            found = {states: step.coarse(scale, states) for states in plain.every_set(many)}
            for large in found:
                for small in found:
                    if plain.within(small, large):
                        self.assertTrue(plain.within(found[small], found[large]))

    def test_rounding_after_every_part(self):
        # From 0 and 3 to nothing else: as a whole it is exact, part by part it is not.
        meet = Step((0,), (), (), (3,))
        for kind in (Sequence, Choice, Loop):
            self.assertEqual(kind(meet).coarse(SPANS, (0, 3)), (0, 1, 2, 3))
        self.assertEqual(Sequence(meet, Guard(4, (1, 2))).coarse(SPANS, (0, 3)), (1, 2))
        self.assertEqual(Sequence(meet, Guard(4, (1, 2))).rows, ((), (), (), ()))
        self.assertEqual(Sequence(MOVE, MOVE).coarse(SPANS, (0, 3)), (2, 3))
        self.assertEqual(Choice(Guard(4, (0,)), Guard(4, (3,))).coarse(SPANS, (0, 1, 2, 3)), (0, 1, 2, 3))
        self.assertEqual(Choice(Guard(4, (0,)), Guard(4, (2,))).coarse(SPANS, (0, 1, 2, 3)), (0, 1, 2))

    def test_a_loop_goes_on_until_nothing_changes(self):
        for many in range(1, 8):
            walk = Loop(Step(*[(state + 1,) if state + 1 < many else () for state in range(many)]))
            every = Scale(many, *plain.every_set(many))
            for state in range(many):
                self.assertEqual(walk.coarse(every, (state,)), tuple(range(state, many)))
        # What rounding adds is where the part goes on from.
        far = Step((2,), (3,), (), ())
        self.assertEqual(Loop(far).rows[0], (0, 2))
        self.assertEqual(Loop(far).coarse(SPANS, (0,)), (0, 1, 2, 3))
        self.assertEqual(Loop(Guard(4, ())).coarse(SPANS, (1, 3)), (1, 2, 3))
        self.assertEqual(Loop(Guard(4, ())).coarse(Scale(4, (0, 1)), ()), (0, 1))

    def test_after_a_change_of_the_scale(self):
        scale = Scale(4, (0, 1))
        self.assertEqual(MIRROR.coarse(scale, (3,)), (0, 1, 2, 3))
        scale.permit((3,))
        self.assertEqual(MIRROR.coarse(scale, (3,)), (0, 1))


class FirstLossTest(unittest.TestCase):

    def check(self, allowed, plan):
        scale, step = scale_of(allowed), build(plan)
        rows = step.rows
        for states in plain.every_set(scale.many):
            found = step.first_loss(scale, states)
            self.assertEqual(found, plain_steps.first_loss(allowed, plan, states))
            if found is not None:
                for thing in (found,) + found:
                    self.assertIs(type(thing), tuple)
                self.assertTrue(all(type(number) is int for number in found[0]))
        self.assertEqual((scale.allowed, step.rows), (allowed, rows))

    def test_basic_steps(self):
        numbers = plain_steps.Numbers(43)
        for many in range(1, 8):
            for _ in range(6):
                self.check(numbers.some_allowed(many), numbers.some_plan(many, 0))
        self.assertEqual(MOVE.first_loss(SPANS, (0, 3)), ((), (0, 3)))
        self.assertIsNone(MOVE.first_loss(SPANS, (0, 1)))
        self.assertIsNone(MOVE.first_loss(SPANS, ()))
        self.assertEqual(Guard(4, (1,)).first_loss(SPANS, (0, 2)), ((), (0, 2)))

    def test_programs(self):
        numbers = plain_steps.Numbers(44)
        for at in range(260):
            self.check(numbers.some_allowed(2 + at % 4), numbers.some_plan(2 + at % 4, 1 + at % 4))
        for many in (1, 6, 7):
            for _ in range(4):
                self.check(numbers.some_allowed(many), numbers.some_plan(many, 4))

    def test_sequences(self):
        self.assertEqual(Sequence(MOVE, MOVE).first_loss(SPANS, (0, 3)), ((0,), (0, 3)))
        part = Step((0,), (), (), (3,))
        self.assertIsNone(Sequence(part, MIRROR).first_loss(SPANS, (0, 3)))
        self.assertEqual(Sequence(part, MOVE).first_loss(SPANS, (0, 3)), ((1,), (0, 3)))
        self.assertEqual(Sequence(part, Sequence(STAY, MIRROR, Sequence(MOVE))).first_loss(SPANS, (0, 1, 2, 3)),
                         ((1, 2, 0), (0, 3)))
        # The true run goes on with what is there, not with what is shown.
        self.assertIsNone(Sequence(Guard(4, (0,)), MOVE).first_loss(SPANS, (0, 1)))

    def test_choices(self):
        self.assertEqual(Choice(MIRROR, MOVE, MOVE).first_loss(SPANS, (0, 3)), ((1,), (0, 3)))
        self.assertIsNone(Choice(MOVE, STAY).first_loss(SPANS, (2, 3)))
        # Each part is reached with the set with which the choice is reached.
        self.assertEqual(Choice(Guard(4, ()), MOVE).first_loss(SPANS, (0, 3)), ((1,), (0, 3)))
        self.assertEqual(Choice(STAY, Choice(STAY, Sequence(STAY, MOVE))).first_loss(SPANS, (0, 3)),
                         ((1, 1, 1), (0, 3)))

    def test_the_last_of_six_parts_alone(self):
        for kind in (Sequence, Choice):
            self.assertEqual(kind(*[STAY] * 5, MOVE).first_loss(SPANS, (0, 3)), ((5,), (0, 3)))
            self.assertIsNone(kind(*[STAY] * 6).first_loss(SPANS, (0, 3)))

    def test_loops_count_their_rounds(self):
        self.assertEqual(Loop(MOVE).first_loss(SPANS, (0, 3)), ((0,), (0, 3)))
        self.assertEqual(Loop(ROUND).first_loss(CHAIN, (0,)), ((2,), (0, 1, 3)))
        self.assertEqual(Loop(ROUND).first_loss(CHAIN, (0, 1)), ((1,), (0, 1, 3)))
        self.assertEqual(Loop(ROUND).first_loss(CHAIN, (0, 1, 3)), ((0,), (0, 1, 3)))
        self.assertIsNone(Loop(ROUND).first_loss(CHAIN, (0, 1, 2, 3)))
        self.assertEqual(Loop(Sequence(STAY, ROUND)).first_loss(CHAIN, (0,)), ((2, 1), (0, 1, 3)))
        self.assertEqual(Sequence(STAY, Loop(Choice(STAY, ROUND))).first_loss(CHAIN, (0,)), ((1, 2, 1), (0, 1, 3)))

    def test_a_loop_counts_anew_each_time_it_is_reached(self):
        inner = Loop(ROUND)
        self.assertEqual(Sequence(Guard(4, (0,)), inner).first_loss(CHAIN, (0,)), ((1, 2), (0, 1, 3)))
        self.assertEqual(Loop(Sequence(STAY, inner)).first_loss(CHAIN, (0,)), ((0, 1, 2), (0, 1, 3)))
        # The inner loop is reached with 3 first, without a loss, and then with 0 and 3.
        inner = Loop(Step((1,), (1,), (2,), ()))
        outer = Loop(Choice(Step((), (), (), (0,)), inner))
        scale = Scale(4, (3,), (0, 3), (1,))
        self.assertEqual(outer.first_loss(scale, (3,)), ((1, 1, 1), (0, 1, 3)))
        self.assertEqual(outer.first_loss(scale, (0, 3)), ((0, 1, 1), (0, 1, 3)))
        self.assertEqual(inner.first_loss(scale, (0, 3)), ((1,), (0, 1, 3)))

    def test_a_loop_ends_when_its_part_has_brought_nothing_new(self):
        self.assertEqual(plain_steps.lost(SPANS.allowed, MOVE.rows, (0, 1, 2, 3)), ())
        self.assertIsNone(Loop(MOVE).first_loss(SPANS, (0,)))
        self.assertIsNone(Loop(Guard(4, ())).first_loss(Scale(4, ()), (0,)))
        self.assertIsNone(Loop(Guard(4, ())).first_loss(Scale(4, (0, 1)), (0,)))
        # A loss in what the last round reaches is found, too.
        last = Step((1,), (), (3,), ())
        scale = Scale(4, (), (0,), (1,), (0, 1, 2))
        self.assertEqual(Loop(last).first_loss(scale, (0,)), ((1,), (0, 1)))

    def test_after_a_change_of_the_scale(self):
        scale = Scale.spans(4)
        self.assertEqual(MOVE.first_loss(scale, (0, 3)), ((), (0, 3)))
        scale.permit((0, 3))
        self.assertIsNone(MOVE.first_loss(scale, (0, 3)))


class DeepTest(unittest.TestCase):

    def wrapped(self, step, kinds, depth):
        for at in range(depth):
            step = kinds[at % len(kinds)](step)
        return step

    def test_one_part_in_another(self):
        for kinds in ((Sequence,), (Choice,), (Sequence, Choice), (Loop,), (Sequence, Loop, Choice)):
            for depth in (1, 19, 20, 21, 25, 40, 60):
                deep = self.wrapped(MOVE, kinds, depth)
                self.assertEqual(deep.first_loss(SPANS, (0, 3)), ((0,) * depth, (0, 3)))
                self.assertIsNone(deep.first_loss(SPANS, ()))
                looped = depth >= len(kinds) and Loop in kinds
                self.assertEqual(deep.rows, Loop(MOVE).rows if looped else MOVE.rows)
                self.assertEqual(deep.coarse(SPANS, (0, 3)), (0, 1, 2, 3) if looped else (1, 2, 3))
                self.assertEqual(deep.text(), (Loop(MOVE) if looped else MOVE).text())
                self.assertEqual(deep.many, 4)

    def test_parts_that_stand_in_many_places(self):
        # Followed one by one, there would be six parts for each level: a number with 16 digits and more.
        deep, other = TURN, MIRROR
        for at in range(25):
            deep = (Sequence, Choice)[at % 2](deep, deep, deep, deep, deep, deep)
            other = Loop((Sequence, Choice)[at % 2](other, other, other, other, other))
        every = Scale(4, *plain.every_set(4))
        self.assertIsNone(deep.first_loss(every, (0, 2)))
        self.assertEqual(len(deep.coarse(every, (0, 2))), 2)
        self.assertEqual(deep.coarse(every, (0, 2)), deep.apply((0, 2)))
        self.assertIsNone(other.first_loss(every, (0,)))
        self.assertEqual(other.coarse(every, (0,)), (0, 3))
        self.assertIsNone(Sequence(deep, MOVE).first_loss(SPANS, (0, 1, 2, 3)))

    def test_programs_nested_deep_against_the_plain_words(self):
        numbers = plain_steps.Numbers(45)
        for _ in range(25):
            allowed, plan = numbers.some_allowed(3), numbers.some_plan(3, 2)
            for at in range(21):
                word = numbers.pick(("sequence", "choice", "sequence", "choice", "loop") if at % 5 == 0 else
                                    ("sequence", "choice"))
                plan = (word, plan) if word == "loop" or at % 7 else (word, plan, numbers.some_plan(3, 0))
            scale, step = scale_of(allowed), build(plan)
            self.assertEqual(step.rows, plain_steps.rows_of(plan))
            for states in plain.every_set(3):
                self.assertEqual(step.coarse(scale, states), plain_steps.coarse(allowed, plan, states))
                self.assertEqual(step.first_loss(scale, states), plain_steps.first_loss(allowed, plan, states))


class RefusedTest(unittest.TestCase):

    def test_one_or_two_faults_at_once(self):
        sets = plain.NEVER_SETS + ((4,), (0, 4), Scale(4), MOVE)
        for step in (MOVE, STAY, Sequence(MOVE, STAY), Choice(MOVE), Loop(MOVE)):
            for call in (step.coarse, step.first_loss):
                for thing in (None, 0, 4, True, "", SPANS.text(), (), SPANS.allowed, [], {}, MOVE, step):
                    for states in ((), (0, 1)) + sets[::3]:
                        check_raises(self, NoScale, call, thing, states)
                for scale in (Scale(3), Scale.spans(5), Scale(7), Scale(1)):
                    for states in ((), (0, 1)) + sets[::3]:
                        check_raises(self, OtherStates, call, scale, states)
                for states in sets:
                    check_raises(self, NoSet, call, SPANS, states)
        self.assertEqual(SPANS, Scale.spans(4))
        self.assertEqual((MOVE.rows, MOVE.parts), (((1,), (2,), (3,), ()), ()))
