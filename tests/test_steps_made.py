"""Steps and programs: how they are made, their rows, many and parts, apply and back."""

import inspect
import unittest

import plain
import plain_steps
from building import build, check_raises
from coarseviews import steps
from coarseviews.errors import NoMany, NoSet, NoStep, OtherStates
from coarseviews.scales import Scale
from coarseviews.steps import Choice, Guard, Loop, Sequence, Step

# None of these is a step.
NO_STEPS = (None, 0, 1, True, "", "0: 0\n", (), ((0,),), [], [(0,)], {}, {0: (0,)}, Scale(1), Scale.spans(2))


def check_step(test, step, rows):
    """What a step says of itself must be what its rows say, in value and in kind."""
    test.assertEqual((step.many, step.rows), (len(rows), rows))
    test.assertIs(type(step.many), int)
    for row in (step.rows,) + step.rows:
        test.assertIs(type(row), tuple)
    for states in plain.every_set(len(rows)):
        test.assertEqual(step.apply(states), plain_steps.applied(rows, states))
        test.assertEqual(step.back(states), plain_steps.back(rows, states))


class InterfaceTest(unittest.TestCase):

    def test_every_name_stands_in_the_class_itself(self):
        for name in ("__init__", "apply", "back", "coarse", "first_loss", "text"):
            self.assertTrue(inspect.isfunction(vars(Step)[name]), name)
        for name in ("many", "rows", "parts"):
            self.assertIsInstance(vars(Step)[name], property, name)
        self.assertIsInstance(vars(Step)["read"], classmethod)
        for kind in (Guard, Sequence, Choice, Loop):
            self.assertEqual(kind.__bases__, (Step,))
            self.assertIn("__init__", vars(kind))
        for kind in (Step, Guard, Sequence, Choice, Loop):
            self.assertEqual(kind.__module__, "coarseviews.steps")
            self.assertIs(vars(steps)[kind.__name__], kind)

    def test_arguments_have_their_names(self):
        step = Loop(part=Guard(many=2, states=(0,)))
        self.assertEqual(step.apply(states=(0,)), (0,))
        self.assertEqual(step.back(states=(0,)), (0,))
        self.assertEqual(step.coarse(scale=Scale(2), states=(0,)), (0, 1))
        self.assertIsNone(step.first_loss(scale=Scale(2), states=(0,)))
        self.assertEqual(Step.read(text="0: -\n").rows, ((),))

    def test_a_step_is_equal_to_itself(self):
        step = Step((0,))
        for one in (step, Guard(1, ()), Sequence(step), Choice(step), Loop(step)):
            self.assertTrue(one == one)
            self.assertFalse(one != one)
            self.assertIsInstance(one, Step)


class StepTest(unittest.TestCase):

    def test_all_steps_of_one_and_two_states(self):
        for many in (1, 2):
            every = plain.every_set(many)
            for rows in ([(one,) for one in every] if many == 1 else [(one, two) for one in every for two in every]):
                check_step(self, Step(*rows), rows)

    def test_steps_of_one_to_seven_states(self):
        numbers = plain_steps.Numbers(20)
        for many in range(1, 8):
            full = tuple(range(many))
            for rows in [((),) * many, (full,) * many] + [numbers.some_rows(many) for _ in range(12)]:
                step = Step(*rows)
                self.assertEqual(step.parts, ())
                check_step(self, step, rows)

    def test_an_example(self):
        move = Step((1,), (2,), (3,), ())
        self.assertEqual((move.many, move.rows, move.parts), (4, ((1,), (2,), (3,), ()), ()))
        self.assertEqual(move.apply((0, 3)), (1,))
        self.assertEqual(move.back((1, 3)), (0, 2, 3))
        self.assertEqual(move.back(()), (3,))

    def test_no_step(self):
        check_raises(self, NoStep, Step)
        check_raises(self, NoStep, Step, *[()] * 8)
        check_raises(self, NoStep, Step, *[(state,) for state in range(8)])
        for thing in plain.NEVER_SETS + (Scale(1), Step((0,)), (3,), (2, 3)):
            for at in range(3):
                rows = [(0,), (), (0, 1, 2)]
                rows[at] = thing
                check_raises(self, NoStep, Step, *rows)
            check_raises(self, NoStep, Step, thing)

    def test_states_are_below_the_number_of_rows(self):
        for many in range(1, 8):
            Step(*[(many - 1,)] * many)
            for at in range(many):
                rows = [()] * many
                rows[at] = (many,)
                check_raises(self, NoStep, Step, *rows)
        check_raises(self, NoStep, Step, *[(6,)] * 8)

    def test_a_step_does_not_change(self):
        rows = [(1,), (0, 1)]
        step = Step(*rows)
        rows.append(())
        rows[0] = ()
        self.assertEqual(step.rows, ((1,), (0, 1)))
        for name, other in (("many", 3), ("rows", ((), ())), ("parts", (step,))):
            with self.assertRaises(AttributeError):
                setattr(step, name, other)
        check_step(self, step, ((1,), (0, 1)))

    def test_no_set(self):
        for step in (Step((1,), (2,), ()), Guard(3, (1,)), Sequence(Guard(3, ())), Choice(Guard(3, (0,))),
                     Loop(Step((1,), (2,), ()))):
            for thing in plain.NEVER_SETS + (Scale(3), step, (3,), (0, 3)):
                check_raises(self, NoSet, step.apply, thing)
                check_raises(self, NoSet, step.back, thing)


class GuardTest(unittest.TestCase):

    def test_every_guard(self):
        for many in range(1, 8):
            for states in plain.every_set(many)[:: 1 if many < 6 else 5] + [tuple(range(many))]:
                guard = Guard(many, states)
                rows = tuple((state,) if state in states else () for state in range(many))
                self.assertEqual((guard.many, guard.rows, guard.parts), (many, rows, ()))
                self.assertIsInstance(guard, Step)
                if many < 5:
                    check_step(self, guard, rows)

    def test_the_empty_and_the_full_set(self):
        self.assertEqual(Guard(3, ()).rows, ((), (), ()))
        self.assertEqual(Guard(3, (0, 1, 2)).rows, ((0,), (1,), (2,)))
        self.assertEqual(Guard(3, ()).back(()), (0, 1, 2))
        self.assertEqual(Guard(3, (0, 1, 2)).back(()), ())

    def test_what_stays_and_what_does_not(self):
        guard = Guard(4, (1, 3))
        self.assertEqual(guard.apply((0, 1, 2)), (1,))
        self.assertEqual(guard.back((1,)), (0, 1, 2))

    def test_refused(self):
        for many in plain.NO_MANY + (Scale(2), Step((0,))):
            for states in ((), (0,), None, (7,), (1, 0)):
                check_raises(self, NoMany, Guard, many, states)
        for thing in plain.NEVER_SETS + (Scale(2), Step((0,)), (3,), (0, 3)):
            check_raises(self, NoSet, Guard, 3, thing)


class ProgramTest(unittest.TestCase):

    def parts(self, numbers, many, number):
        return [build(numbers.some_plan(many, numbers.below(3))) for _ in range(number)]

    def test_the_examples(self):
        self.assertEqual(Sequence(Step((1,), (0,)), Step((0, 1), ())).rows, ((), (0, 1)))
        self.assertEqual(Choice(Step((1,), (0,)), Step((0, 1), ())).rows, ((0, 1), (0,)))
        self.assertEqual(Loop(Step((1,), (2,), (), (0,))).rows, ((0, 1, 2), (1, 2), (2,), (0, 1, 2, 3)))
        self.assertEqual(Loop(Step((), ())).rows, ((0,), (1,)))

    def test_one_to_six_parts(self):
        numbers = plain_steps.Numbers(21)
        for many in range(1, 8):
            for number in range(1, 7):
                given = self.parts(numbers, many, number)
                before = [(part.rows, part.parts) for part in given]
                plans = [("step",) + part.rows for part in given]
                for kind, word in ((Sequence, "sequence"), (Choice, "choice")):
                    self.check_whole(kind(*given), (word, *plans), given)
                    self.assertEqual([(part.rows, part.parts) for part in given], before)

    def test_loops(self):
        numbers = plain_steps.Numbers(22)
        for many in range(1, 8):
            for _ in range(6):
                given = self.parts(numbers, many, 1)
                before = (given[0].rows, given[0].parts)
                self.check_whole(Loop(*given), ("loop", ("step",) + given[0].rows), given)
                self.assertEqual((given[0].rows, given[0].parts), before)

    def check_whole(self, whole, plan, given):
        check_step(self, whole, plain_steps.rows_of(plan))
        self.assertIs(type(whole.parts), tuple)
        self.assertEqual(len(whole.parts), len(given))
        for one, other in zip(whole.parts, given):
            self.assertIs(one, other)

    def test_a_loop_through_all_states(self):
        for many in range(1, 8):
            turn = Step(*[((state + 1) % many,) for state in range(many)])
            self.assertEqual(Loop(turn).rows, (tuple(range(many)),) * many)
            walk = Step(*[(state + 1,) if state + 1 < many else () for state in range(many)])
            self.assertEqual(Loop(walk).rows, tuple(tuple(range(state, many)) for state in range(many)))

    def test_programs_in_programs(self):
        numbers = plain_steps.Numbers(23)
        for at in range(150):
            plan = numbers.some_plan(2 + at % 4, 4)
            check_step(self, build(plan), plain_steps.rows_of(plan))

    def test_the_same_part_several_times(self):
        part = Step((1,), (2,), (0,))
        whole = Sequence(part, part, part)
        self.assertEqual(whole.rows, ((0,), (1,), (2,)))
        self.assertEqual(whole.parts, (part, part, part))
        self.assertEqual(Choice(part, part).rows, part.rows)

    def test_put_together_otherwise(self):
        numbers = plain_steps.Numbers(24)
        for at in range(60):
            one, two, three = [build(numbers.some_plan(1 + at % 7, 2)) for _ in range(3)]
            for kind in (Sequence, Choice):
                rows = kind(one, two, three).rows
                self.assertEqual(kind(kind(one, two), three).rows, rows)
                self.assertEqual(kind(one, kind(two, three)).rows, rows)
                self.assertEqual(kind(kind(one), kind(kind(two), three)).rows, rows)
                self.assertEqual(kind(one).rows, one.rows)
            rows = Choice(one, two, three).rows
            for parts in ((one, three, two), (two, one, three), (three, two, one), (one, one, two, three)):
                self.assertEqual(Choice(*parts).rows, rows)
            self.assertEqual(Loop(Loop(one)).rows, Loop(one).rows)
            self.assertEqual(Sequence(Loop(one), Loop(one)).rows, Loop(one).rows)
            self.assertEqual(Sequence(one, Choice(two, three)).rows,
                             Choice(Sequence(one, two), Sequence(one, three)).rows)

    def test_no_step(self):
        good = Step((1,), (0,))
        for kind in (Sequence, Choice):
            check_raises(self, NoStep, kind)
            check_raises(self, NoStep, kind, *[good] * 7)
            kind(*[good] * 6)
            for thing in NO_STEPS:
                check_raises(self, NoStep, kind, thing)
                for at in range(3):
                    parts = [good, Guard(2, (0,)), Loop(good)]
                    parts[at] = thing
                    check_raises(self, NoStep, kind, *parts)
        for thing in NO_STEPS + ((good,), [good]):
            check_raises(self, NoStep, Loop, thing)

    def test_other_states(self):
        good, other = Step((1,), (0,)), Step((1,), (0,), ())
        for kind in (Sequence, Choice):
            for parts in ((good, other), (other, good), (good, good, other), (good, other, good), (good, Loop(other)),
                          (kind(good), Guard(1, ())), (good,) * 5 + (other,)):
                check_raises(self, OtherStates, kind, *parts)

    def test_no_step_ahead_of_other_states(self):
        good, other = Step((1,), (0,)), Step((1,), (0,), ())
        for kind in (Sequence, Choice):
            for parts in ((good, other, None), (None, good, other), (good, None, other), (good, other) * 4):
                check_raises(self, NoStep, kind, *parts)
        self.assertEqual((good.rows, other.rows), (((1,), (0,)), ((1,), (0,), ())))


class BothWaysTest(unittest.TestCase):

    def test_apply_within_just_where_within_back(self):
        numbers = plain_steps.Numbers(30)
        for many in (1, 2, 3, 4, 5):
            every = plain.every_set(many)
            for _ in range(4):
                step = build(numbers.some_plan(many, 2))
                after = {states: step.apply(states) for states in every}
                before = {states: step.back(states) for states in every}
                for one in every:
                    for two in every:
                        self.assertIs(plain.within(after[one], two), plain.within(one, before[two]))
                        self.assertEqual(after[plain_steps.united([one, two])],
                                         plain_steps.united([after[one], after[two]]))
                        self.assertEqual(before[plain.common(one, two)], plain.common(before[one], before[two]))
                self.assertEqual((after[()], before[every[-1]]), ((), every[-1]))

    def test_six_and_seven_states(self):
        numbers = plain_steps.Numbers(31)
        for many in (6, 7):
            step = build(numbers.some_plan(many, 3))
            for _ in range(400):
                one, two = numbers.some_set(many), numbers.some_set(many)
                self.assertIs(plain.within(step.apply(one), two), plain.within(one, step.back(two)))
                self.assertTrue(plain.within(step.apply(step.back(two)), two))
                self.assertTrue(plain.within(one, step.back(step.apply(one))))
