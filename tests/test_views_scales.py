"""Finer and coarser scales: refined, coarsened and scales_between."""

import inspect
import unittest
from itertools import islice, permutations

import plain
import plain_steps
from building import build, check_raises, scale_of
from coarseviews import views
from coarseviews.errors import NoScale, NotBelow, OtherStates, TooMany
from coarseviews.scales import Scale
from coarseviews.steps import Choice, Guard, Loop, Sequence, Step
from coarseviews.views import coarsened, exact, refined, scales_between

TURN = Step((1,), (2,), (0,))


def some_cases(seed, number, least=1, most=4):
    """What some scales allow, each with the rows of none to three steps."""
    numbers = plain_steps.Numbers(seed)
    for at in range(number):
        many = least + at % (most - least + 1)
        steps = [plain_steps.rows_of(numbers.some_plan(many, 1)) for _ in range(at // 3 % 4)]
        yield numbers.some_allowed(many), steps


class InterfaceTest(unittest.TestCase):

    def test_every_name_is_defined_there(self):
        for name in ("exact", "shows", "refined", "coarsened", "scales_between"):
            self.assertTrue(inspect.isfunction(vars(views)[name]), name)
            self.assertEqual(vars(views)[name].__module__, "coarseviews.views")
        self.assertTrue(inspect.isgeneratorfunction(scales_between))

    def test_arguments_have_their_names(self):
        scale, step = Scale(1), Step((0,))
        self.assertEqual(views.exact(scale=scale, step=step), ("exact", ()))
        self.assertTrue(views.shows(scale=scale, step=step, thing=("exact", ())))
        self.assertEqual(refined(scale=scale), scale)
        self.assertEqual(coarsened(scale=scale), scale)
        self.assertEqual(list(scales_between(low=scale, high=scale)), [scale])


class RefinedTest(unittest.TestCase):

    def check(self, allowed, steps):
        scale, made = scale_of(allowed), [Step(*rows) for rows in steps]
        found = refined(scale, *made)
        self.assertIs(type(found), Scale)
        self.assertIsNot(found, scale)
        self.assertEqual(found.allowed, plain_steps.refined(allowed, steps))
        self.assertEqual((scale.allowed, [step.rows for step in made]), (allowed, steps))
        for step in made:
            self.assertEqual(exact(found, step)[0], "exact")
        self.assertEqual(refined(found, *made), found)
        self.assertEqual(refined(scale, *made[::-1]), found)
        self.assertEqual(refined(scale, *made, *made), found)
        return found

    def test_the_session(self):
        self.assertEqual(len(refined(Scale(3, (0, 1)), Step((1,), (2,), (0,))).allowed), 8)

    def test_no_steps(self):
        for scale in (Scale(1), Scale.spans(5), Scale(3, (0, 1))):
            for found in (refined(scale), coarsened(scale)):
                self.assertEqual(found, scale)
                self.assertIsNot(found, scale)

    def test_against_a_plain_search(self):
        for allowed, steps in some_cases(60, 160):
            self.check(allowed, steps)
        for allowed, steps in some_cases(61, 12, 5, 7):
            self.check(allowed, steps)

    def test_again_and_again(self):
        # Back leads from 6 to 5, from 5 to 4, and so on.
        walk = Step(*[(state + 1,) if state < 6 else (0, 6) for state in range(7)])
        found = self.check(plain.closed(7, [(6,)]), [walk.rows])
        self.assertTrue(all([found.allows((state,)) for state in range(6)]))

    def test_steps_take_turns(self):
        one, two = Step((1,), (0,), (2,)), Step((0,), (2,), (1,))
        self.assertEqual(refined(Scale(3, (0,)), one).allowed, ((), (0,), (1,), (0, 1, 2)))
        self.assertEqual(refined(Scale(3, (0,)), two).allowed, ((0,), (0, 1, 2)))
        self.assertEqual(refined(Scale(3, (0,)), one, two).allowed, ((), (0,), (1,), (2,), (0, 1, 2)))

    def test_the_least_of_all_finer_ones(self):
        families = list(plain.families(3))
        for allowed, steps in some_cases(62, 120, 3, 3):
            if steps:
                found = self.check(allowed, steps).allowed
                finer = [other for other in families if set(allowed) <= set(other)
                         and all(plain_steps.is_exact(other, rows) for rows in steps)]
                self.assertIn(found, finer)
                for other in finer:
                    self.assertTrue(set(found) <= set(other))

    def test_changing_the_result_changes_nothing_else(self):
        for change in (refined, coarsened):
            for steps in ((), (TURN,), (Guard(3, (0, 1, 2)),)):
                scale = Scale(3, (0,), (1,))
                found = change(scale, *steps)
                before = found.allowed
                found.assign_allowed(((2,), (0, 1, 2)))
                self.assertEqual(scale, Scale(3, (0,), (1,)))
                self.assertEqual(change(scale, *steps).allowed, before)
                found = change(scale, *steps)
                scale.assign_allowed(((2,), (0, 1, 2)))
                self.assertEqual(found.allowed, before)

    def test_programs_as_a_whole(self):
        move = Step((1,), (2,), (3,), ())
        scale = Scale(4, (0, 1), (2,))
        for step in (Sequence(move, move), Choice(move, Guard(4, (1,))), Loop(move), Guard(4, (2, 3))):
            for change in (refined, coarsened):
                self.assertEqual(change(scale, step), change(scale, Step(*step.rows)))
            self.check(scale.allowed, [step.rows])


class CoarsenedTest(unittest.TestCase):

    def check(self, allowed, steps):
        scale, made = scale_of(allowed), [Step(*rows) for rows in steps]
        found = coarsened(scale, *made)
        self.assertIs(type(found), Scale)
        self.assertIsNot(found, scale)
        self.assertEqual(found.allowed, plain_steps.coarsened(allowed, steps))
        self.assertEqual((scale.allowed, [step.rows for step in made]), (allowed, steps))
        for step in made:
            self.assertEqual(exact(found, step)[0], "exact")
        self.assertEqual(coarsened(found, *made), found)
        self.assertEqual(coarsened(scale, *made[::-1]), found)
        self.assertEqual(coarsened(scale, *made, *made), found)
        return found

    def test_against_a_plain_search(self):
        for allowed, steps in some_cases(63, 160):
            self.check(allowed, steps)
        for allowed, steps in some_cases(64, 12, 5, 7):
            self.check(allowed, steps)

    def test_larger_families(self):
        numbers = plain_steps.Numbers(65)
        for at in range(60):
            many = 3 + at % 3
            allowed = plain.closed(many, [numbers.some_set(many) for _ in range(4 + 2 * many)])
            self.check(allowed, [plain_steps.rows_of(numbers.some_plan(many, 0)) for _ in range(1 + at % 2)])

    def test_again_and_again(self):
        # Back leads from 0 to 6, from there to 5, and so on to 1, which is not allowed.
        turn = Step(*[((state + 1) % 7,) for state in range(7)])
        states = [(), (0,), (2,), (3,), (4,), (5,), (6,)]
        self.assertEqual(self.check(plain.closed(7, states), [turn.rows]).allowed, ((), tuple(range(7))))
        states.append((1,))
        self.assertEqual(len(self.check(plain.closed(7, states), [turn.rows]).allowed), 9)

    def test_examples(self):
        scale = Scale(3, (0,), (1,), (2,), (0, 1))
        self.assertEqual(coarsened(scale, TURN).allowed, ((), (0,), (1,), (2,), (0, 1, 2)))
        fall = Step((0,), (0,), (1,))
        self.assertEqual(coarsened(scale, fall), scale)
        self.assertEqual(coarsened(scale, TURN, fall).allowed, ((), (0, 1, 2)))
        self.assertEqual(coarsened(Scale(3, (0,)), Step((), (), ())).allowed, ((0,), (0, 1, 2)))
        self.assertEqual(coarsened(Scale(3, ()), Step((), (), (0,))).allowed, ((0, 1, 2),))

    def test_the_greatest_of_all_coarser_ones(self):
        families = list(plain.families(3))
        for allowed, steps in some_cases(66, 120, 3, 3):
            if steps:
                found = self.check(allowed, steps).allowed
                coarser = [other for other in families if set(other) <= set(allowed)
                           and all(plain_steps.is_exact(other, rows) for rows in steps)]
                self.assertIn(found, coarser)
                for other in coarser:
                    self.assertTrue(set(other) <= set(found))


class NumberedOtherwiseTest(unittest.TestCase):

    def test_the_same_numbered_otherwise(self):
        cases = list(some_cases(67, 60, 1, 4)) + list(some_cases(68, 9, 5, 7))
        for allowed, steps in cases:
            many = len(allowed[-1])
            for places in list(permutations(range(many)))[1::1 if many < 4 else 7 * many][:5]:
                there = [plain_steps.numbered(places, states) for states in allowed]
                made = [Step(*rows) for rows in steps]
                made_there = [Step(*plain_steps.numbered_rows(places, rows)) for rows in steps]
                for change in (refined, coarsened):
                    right = [plain_steps.numbered(places, states) for states in change(scale_of(allowed), *made).allowed]
                    self.assertEqual(change(Scale(many, *there), *made_there).allowed, plain.ordered(right))


class ScalesBetweenTest(unittest.TestCase):

    def check(self, low, high):
        found = list(scales_between(scale_of(low), scale_of(high)))
        self.assertEqual([scale.allowed for scale in found], plain_steps.between(low, high))
        for scale in found:
            self.assertIs(type(scale), Scale)
            self.assertEqual(scale, scale_of(scale.allowed))
        return found

    def test_every_pair_of_scales(self):
        for many in (1, 2):
            for low in plain.families(many):
                for high in plain.families(many):
                    if set(low) <= set(high):
                        self.check(low, high)
                    else:
                        check_raises(self, NotBelow, list, scales_between(scale_of(low), scale_of(high)))

    def test_pairs_of_three_states(self):
        families = list(plain.families(3))
        for low in families[::5]:
            for high in families:
                if set(low) <= set(high):
                    self.check(low, high)
                else:
                    check_raises(self, NotBelow, list, scales_between(scale_of(low), scale_of(high)))

    def test_all_scales_of_three_states(self):
        found = self.check(((0, 1, 2),), tuple(plain.every_set(3)))
        self.assertEqual(len(found), 61)
        self.assertEqual(sorted([scale.allowed for scale in found]), sorted(plain.families(3)))

    def test_larger_ones(self):
        numbers = plain_steps.Numbers(69)
        for at in range(40):
            many = 4 + at % 4
            low = numbers.some_allowed(many)
            high = plain.closed(many, low + (numbers.some_set(many), numbers.some_set(many)))
            if len(high) - len(low) <= 10:
                self.check(low, high)

    def test_the_same_scale_twice(self):
        for scale in (Scale(1), Scale.spans(7), Scale(7, *plain.every_set(7))):
            found = list(scales_between(scale, scale))
            self.assertEqual(found, [scale])
            self.assertIsNot(found[0], scale)

    def test_an_order(self):
        found = list(scales_between(Scale(2), Scale(2, (), (0,), (1,))))
        self.assertEqual([scale.allowed for scale in found], [
            ((0, 1),), ((), (0, 1)), ((0,), (0, 1)), ((1,), (0, 1)), ((), (0,), (0, 1)), ((), (1,), (0, 1)),
            ((), (0,), (1,), (0, 1))])

    def chain(self, number):
        """The scale of seven states that allows so many sets beside the full set, each within the next one."""
        full = tuple(range(7))
        return Scale(7, *[full[:size] for size in range(7 - number, 7)])

    def test_ten_sets_between_and_eleven(self):
        every = plain.every_set(7)
        # Without the empty set at most one of seven points, with it any of them.
        self.assertEqual(len(list(scales_between(Scale(7), Scale(7, *every[:8])))), 8 + 128)
        sets = every[1:8] + every[8:11]
        high = Scale(7, (), *sets)
        low = Scale(7, ())
        self.assertEqual(len(high.allowed) - len(low.allowed), 10)
        self.check(low.allowed, high.allowed)
        for number in (11, 12):
            high = Scale(7, (), *every[1:8], *every[8:8 + number - 7])
            error = check_raises(self, TooMany, list, scales_between(low, high))
            self.assertEqual((error.amount, error.limit), (number, 10))
            self.assertIs(type(error.amount), int)
        error = check_raises(self, TooMany, list, scales_between(Scale(7), Scale(7, *every)))
        self.assertEqual((error.amount, error.limit), (127, 10))
        self.assertEqual(len(list(scales_between(Scale(7), self.chain(7)))), 128)
        self.assertEqual(len(list(scales_between(self.chain(7), self.chain(7)))), 1)

    def test_not_below(self):
        low, high = Scale(3, (0,)), Scale(3, (0,), (1,))
        for one, two in ((high, low), (Scale(3, (1,)), low), (low, Scale(3)), (Scale(3, ()), low)):
            check_raises(self, NotBelow, list, scales_between(one, two))
        # NotBelow comes ahead of TooMany.
        most = plain.closed(7, plain.every_set(7)[8:20])
        check_raises(self, NotBelow, list, scales_between(Scale(7, (0, 1, 2, 3, 4)), Scale(7, *most)))

    def test_refused_when_the_first_is_asked_for(self):
        for error, low, high in ((NoScale, None, Scale(3)), (NoScale, Scale(3), None), (NoScale, Step((0,)), Scale(1)),
                                 (OtherStates, Scale(3), Scale(4)), (NotBelow, Scale(3, ()), Scale(3)),
                                 (TooMany, Scale(4), Scale(4, *plain.every_set(4)))):
            def first(one, two):
                return next(iter(scales_between(one, two)))
            check_raises(self, error, first, low, high)

    def test_changing_a_result_changes_nothing_else(self):
        low, high = Scale(2), Scale(2, (), (0,))
        found = list(scales_between(low, high))
        for scale in found:
            scale.assign_allowed(((1,), (0, 1)))
        self.assertEqual((low, high), (Scale(2), Scale(2, (), (0,))))
        self.assertEqual(len(list(scales_between(low, high))), 4)
        self.assertEqual(list(islice(scales_between(low, high), 2)), [Scale(2), Scale(2, ())])
