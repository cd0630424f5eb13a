"""How scales are made, and what they say of themselves: is_set, allowed, allows, round, edges."""

import inspect
import unittest

import plain
from coarseviews.errors import NoLabels, NoMany, NoScale, NoSet, OtherStates
from coarseviews.scales import Scale


class InterfaceTest(unittest.TestCase):

    def test_every_name_stands_in_the_class_itself(self):
        for name in ("__init__", "__eq__", "assign_allowed", "round", "allows", "permit", "forbid", "change",
                     "trial", "meet", "join", "text"):
            self.assertTrue(inspect.isfunction(vars(Scale)[name]), name)
        for name in ("many", "allowed", "edges"):
            self.assertIsInstance(vars(Scale)[name], property, name)
        for name in ("of_parts", "spans", "read"):
            self.assertIsInstance(vars(Scale)[name], classmethod, name)
        self.assertIsInstance(vars(Scale)["is_set"], staticmethod)
        self.assertEqual(Scale.__module__, "coarseviews.scales")

    def test_arguments_have_their_names(self):
        scale = Scale(many=2)
        self.assertEqual(scale.assign_allowed(sets=((0,), (0, 1))), None)
        self.assertEqual(scale.round(states=(0,)), (0,))
        self.assertTrue(scale.allows(states=(0,)))
        self.assertEqual(scale.forbid(states=(0,)), None)
        self.assertEqual(scale.meet(other=scale), scale)
        self.assertTrue(Scale.is_set(many=2, thing=(0,)))
        self.assertEqual(Scale.of_parts(labels=(0,)), Scale.spans(many=1))
        self.assertEqual(Scale.read(text="states 2\n0 1\n"), scale)

    def test_most(self):
        self.assertEqual(Scale.MOST, 7)
        self.assertEqual(Scale(2).MOST, 7)

    def test_the_session_of_the_document(self):
        self.assertEqual(Scale.spans(4).round((0, 3)), (0, 1, 2, 3))
        self.assertEqual(Scale.of_parts((0, 1, 0, 1)).edges, ((0, 2), (1, 3)))


class IsSetTest(unittest.TestCase):

    def test_all_sets_are_sets(self):
        for many in range(1, 8):
            for states in plain.every_set(many):
                self.assertIs(Scale.is_set(many, states), True, (many, states))

    def test_other_values_are_none(self):
        for many in range(1, 8):
            for thing in plain.NEVER_SETS + (Scale(2),):
                self.assertIs(Scale.is_set(many, thing), False, (many, thing))

    def test_the_states_end_below_many(self):
        for many in range(1, 8):
            self.assertTrue(Scale.is_set(many, (many - 1,)))
            self.assertFalse(Scale.is_set(many, (many,)))
            self.assertFalse(Scale.is_set(many, tuple(range(many + 1))))

    def test_one_state_changed(self):
        for states in plain.every_set(4):
            for at, state in enumerate(states):
                for other in (-1, 0, 1, 2, 3, 4, True, False, None, "0", (state,)):
                    changed = states[:at] + (other,) + states[at + 1:]
                    right = type(other) is int and changed in plain.every_set(4)
                    self.assertIs(Scale.is_set(4, changed), right, changed)

    def test_repeated_or_in_another_order(self):
        for states in plain.every_set(5)[1:]:
            self.assertFalse(Scale.is_set(5, states + states[-1:]), states)
            self.assertFalse(Scale.is_set(5, states[:1] + states), states)
            if len(states) > 1:
                self.assertFalse(Scale.is_set(5, states[::-1]), states)
                self.assertFalse(Scale.is_set(5, states[1:] + states[:1]), states)
            self.assertFalse(Scale.is_set(5, list(states)), states)

    def test_no_many(self):
        for many in plain.NO_MANY + (Scale(2),):
            for thing in ((), (0,), [0], None, many):
                with self.assertRaises(NoMany):
                    Scale.is_set(many, thing)

    def test_called_off_an_object(self):
        scale = Scale(2)
        self.assertTrue(scale.is_set(3, (2,)))


class AllowedTest(unittest.TestCase):

    def check(self, many, sets):
        scale = Scale(many, *sets)
        right = plain.closed(many, sets)
        self.assertEqual(scale.many, many)
        self.assertEqual(scale.allowed, right)
        self.assertIs(type(scale.allowed), tuple)
        for states in plain.every_set(many):
            self.assertIs(scale.allows(states), states in right)
            self.assertEqual(scale.round(states), plain.rounded(right, states))
        self.assertEqual(scale.edges, plain.edges(right))

    def test_the_example(self):
        self.assertEqual(Scale(3, (0, 1), (1, 2)).allowed, ((1,), (0, 1), (1, 2), (0, 1, 2)))

    def test_without_sets(self):
        for many in range(1, 8):
            full = tuple(range(many))
            scale = Scale(many)
            self.assertEqual((scale.many, scale.allowed, scale.edges), (many, (full,), ()))
            self.assertEqual(scale.round(()), full)

    def test_every_scale_of_up_to_three_states(self):
        for many, number in ((1, 2), (2, 7), (3, 61)):
            found = list(plain.families(many))
            self.assertEqual(len(found), number)
            for sets in found:
                self.check(many, sets)
                self.check(many, sets[::-1] + sets[:1])
                self.check(many, plain.edges(sets))

    def test_every_pair_of_sets(self):
        for first in plain.every_set(4):
            for second in plain.every_set(4):
                self.check(4, (first, second))

    def test_larger_scales(self):
        for many in (4, 5, 6):
            for sets in plain.samples(many):
                self.check(many, sets)

    def test_seven_states(self):
        every = plain.every_set(7)
        self.assertEqual(Scale(7, *every).allowed, tuple(every))
        co_points = [tuple(state for state in range(7) if state != out) for out in range(7)]
        self.assertEqual(Scale(7, *co_points).allowed, tuple(every))
        self.assertEqual(Scale(7, *every).edges, plain.ordered(co_points))
        self.check(7, ((0, 1, 2, 6), (2, 3, 4, 6), (4, 5, 6), (1, 2)))

    def test_common_states_of_three_sets(self):
        scale = Scale(4, (0, 1, 2), (0, 1, 3), (0, 2, 3))
        self.assertEqual(scale.allowed[:4], ((0,), (0, 1), (0, 2), (0, 3)))

    def test_in_order(self):
        scale = Scale(4, (0, 1, 2), (3,), (1, 2), (0, 3), (0,), ())
        self.assertEqual(scale.allowed, ((), (0,), (3,), (0, 3), (1, 2), (0, 1, 2), (0, 1, 2, 3)))

    def test_a_set_twice(self):
        self.assertEqual(Scale(3, (0, 1), (0, 1)).allowed, ((0, 1), (0, 1, 2)))
        self.assertEqual(Scale(3, (0, 1, 2), (0, 1, 2)).allowed, ((0, 1, 2),))

    def test_no_many(self):
        for many in plain.NO_MANY + (Scale(2),):
            with self.assertRaises(NoMany):
                Scale(many)
            with self.assertRaises(NoMany):
                Scale(many, (0, 0), None)

    def test_no_set(self):
        for thing in plain.NEVER_SETS + (Scale(2), (3,), (0, 3)):
            with self.assertRaises(NoSet):
                Scale(3, thing)
            with self.assertRaises(NoSet):
                Scale(3, (0, 1), (0, 1, 2), thing)
            with self.assertRaises(NoSet):
                Scale(3, thing, (0, 1))

    def test_an_edge_by_its_definition(self):
        self.assertEqual(Scale(2, ()).edges, ((),))
        self.assertEqual(Scale(2, (0,), (1,)).edges, ((0,), (1,)))
        self.assertEqual(Scale(3, (), (0,)).edges, ((), (0,)))
        self.assertEqual(Scale(1).edges, ())

    def test_questions_refuse_what_is_no_set(self):
        scale = Scale(3, (0, 1), (1, 2))
        for thing in plain.NEVER_SETS + (scale, (3,), (0, 3), (0, 1, 2, 3)):
            with self.assertRaises(NoSet):
                scale.round(thing)
            with self.assertRaises(NoSet):
                scale.allows(thing)
        self.assertEqual(scale.allowed, ((1,), (0, 1), (1, 2), (0, 1, 2)))

    def test_kinds_of_what_is_returned(self):
        scale = Scale(3, (0, 1), (1,))
        for sets in (scale.allowed, scale.edges):
            self.assertIs(type(sets), tuple)
            for states in sets:
                self.assertIs(type(states), tuple)
                self.assertTrue(all(type(state) is int for state in states))
        self.assertIs(type(scale.round((0,))), tuple)
        self.assertIs(type(scale.many), int)

    def test_the_same_again(self):
        scale = Scale(3, (0, 1), (1,))
        self.assertEqual(scale.allowed, scale.allowed)
        self.assertEqual(scale.edges, scale.edges)
        self.assertEqual(scale.round((0,)), scale.round((0,)))


class OfPartsTest(unittest.TestCase):

    def test_against_all_sets(self):
        for labels in ((5,), (0, 0), (0, 1), (1, 0), (0, 1, 0, 1), (2, 2, 2, 2), (-1, 3, -1, 0), (0, 1, 2, 3),
                       (9999999999999, 0, -9999999999999, 0, 4), (1, 1, 2, 2, 3, 3), (0, 1, 2, 3, 4, 5, 6),
                       (0, 1, 0, 1, 0, 1, 0)):
            right = []
            for states in plain.every_set(len(labels)):
                inside = {labels[state] for state in states}
                if states == tuple(state for state in range(len(labels)) if labels[state] in inside):
                    right.append(states)
            scale = Scale.of_parts(labels)
            self.assertEqual((scale.many, scale.allowed), (len(labels), tuple(right)))

    def test_only_equality_of_labels_counts(self):
        self.assertEqual(Scale.of_parts((0, 1, 0)), Scale.of_parts((8, -2, 8)))
        self.assertNotEqual(Scale.of_parts((0, 1, 0)), Scale.of_parts((0, 1, 1)))

    def test_no_labels(self):
        for labels in ((), (0,) * 8, [0, 1], [], None, 0, 3, "01", True, {0: 0}, (True,), (0, False), (0, None),
                       (0, "1"), ((0,),), (0, [1]), Scale(2), (Scale(2),)):
            with self.assertRaises(NoLabels):
                Scale.of_parts(labels)


class SpansTest(unittest.TestCase):

    def test_against_all_sets(self):
        for many in range(1, 8):
            right = [states for states in plain.every_set(many)
                     if states == () or states == tuple(range(states[0], states[-1] + 1))]
            scale = Scale.spans(many)
            self.assertEqual((scale.many, scale.allowed), (many, tuple(right)))

    def test_no_many(self):
        for many in plain.NO_MANY + (Scale(2),):
            with self.assertRaises(NoMany):
                Scale.spans(many)


class TwoScalesTest(unittest.TestCase):

    def test_meet_and_join_of_all_pairs(self):
        for many in (1, 2, 3):
            found = list(plain.families(many))
            for first in found:
                for second in found[::3]:
                    self.check(many, first, second)

    def test_meet_and_join_of_larger_ones(self):
        for many in (4, 5):
            found = plain.samples(many)
            for first in found[::2]:
                for second in found[1::3]:
                    self.check(many, plain.closed(many, first), plain.closed(many, second))
        every = Scale(7, *plain.every_set(7))
        self.assertEqual(every.meet(Scale.spans(7)), Scale.spans(7))
        self.assertEqual(Scale.spans(7).join(every), every)

    def check(self, many, first, second):
        one, other = Scale(many, *first), Scale(many, *second)
        both = one.meet(other)
        self.assertEqual(both.allowed, tuple(states for states in first if states in second))
        self.assertEqual(both.many, many)
        either = one.join(other)
        self.assertEqual(either.allowed, plain.closed(many, first + second))
        self.assertEqual(either.many, many)
        self.assertEqual((one.allowed, other.allowed), (first, second))

    def test_both_are_new_scales(self):
        one = Scale(3, (0, 1))
        for made in (one.meet(one), one.join(one), one.meet(Scale(3, (0, 1))), one.join(Scale(3))):
            self.assertEqual(made, one)
            self.assertIsNot(made, one)
            self.assertEqual(made.permit((0,)), 1)
            self.assertEqual(one.allowed, ((0, 1), (0, 1, 2)))

    def test_no_scale(self):
        scale = Scale(3)
        for other in (None, 3, True, "", (), [], {}, ((0, 1, 2),), scale.allowed, scale.text()):
            with self.assertRaises(NoScale):
                scale.meet(other)
            with self.assertRaises(NoScale):
                scale.join(other)

    def test_other_states(self):
        for many, others in ((1, 2), (2, 1), (3, 7), (7, 3)):
            with self.assertRaises(OtherStates):
                Scale(many).meet(Scale(others))
            with self.assertRaises(OtherStates):
                Scale(many).join(Scale(others))

    def test_equal(self):
        found = [(many, sets) for many in (1, 2, 3) for sets in plain.families(many)]
        for many, sets in found:
            for others, other_sets in found:
                equal = (many, sets) == (others, other_sets)
                self.assertIs(Scale(many, *sets) == Scale(others, *other_sets), equal)
                self.assertIs(Scale(many, *sets) != Scale(others, *other_sets), not equal)

    def test_equal_however_made(self):
        self.assertEqual(Scale(3, (0, 1), (1, 2)), Scale(3, (1, 2), (1,), (0, 1), (0, 1)))
        changed = Scale(3)
        changed.permit((0, 1))
        self.assertNotEqual(changed, Scale(3))
        changed.forbid((0, 1))
        self.assertEqual(changed, Scale(3))

    def test_equal_to_nothing_else(self):
        scale = Scale(1)
        for other in (None, 1, True, 0, "", scale.text(), scale.allowed, [scale.allowed], (1, scale.allowed), {}, ()):
            self.assertIs(scale == other, False)
            self.assertIs(other == scale, False)
            self.assertIs(scale != other, True)
