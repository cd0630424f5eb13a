"""How scales change: permit, forbid, the assignment of allowed, change and trial."""

import unittest

import plain
from coarseviews.errors import NoDeed, NoEdge, NoSet, NotClosed
from coarseviews.scales import Scale


class Stop(BaseException):
    """An exception that is no error of the package, and no Exception either."""


def check_as(test, scale, right):
    """What a scale says after a change must be what one says that was made so."""
    test.assertEqual(scale.allowed, right)
    test.assertEqual(scale.edges, plain.edges(right))
    test.assertEqual(scale, Scale(scale.many, *right))
    for states in plain.every_set(scale.many):
        test.assertIs(scale.allows(states), states in right)
        test.assertEqual(scale.round(states), plain.rounded(right, states))


class PermitTest(unittest.TestCase):

    def test_every_set_on_every_scale(self):
        for many in (1, 2, 3):
            for family in plain.families(many):
                for states in plain.every_set(many):
                    scale = Scale(many, *family)
                    right = plain.closed(many, family + (states,))
                    more = scale.permit(states)
                    self.assertEqual(more, len(right) - len(family))
                    self.assertIs(type(more), int)
                    check_as(self, scale, right)

    def test_several_sets(self):
        for many in (4, 5):
            found = plain.samples(many)
            for family, sets in zip(found, found[3:]):
                scale = Scale(many, *family)
                before = plain.closed(many, family)
                right = plain.closed(many, family + sets)
                self.assertEqual(scale.permit(*sets), len(right) - len(before))
                check_as(self, scale, right)

    def test_nothing_new(self):
        scale = Scale(3, (0, 1), (1, 2))
        self.assertEqual(scale.permit(), 0)
        self.assertEqual(scale.permit((1,), (0, 1), (0, 1), (0, 1, 2)), 0)
        self.assertEqual(scale, Scale(3, (0, 1), (1, 2)))

    def test_what_follows_counts(self):
        scale = Scale(3, (0, 1))
        self.assertEqual(scale.permit((1, 2)), 2)
        self.assertEqual(scale.permit((0,), (0,)), 2)
        self.assertEqual(scale.allowed, ((), (0,), (1,), (0, 1), (1, 2), (0, 1, 2)))

    def test_refused(self):
        scale = Scale(3, (0, 1), (1, 2))
        for thing in plain.NEVER_SETS + (scale, (3,), (1, 3)):
            for sets in ((thing,), ((0,), thing), (thing, (0,)), ((0,), thing, (2,))):
                with self.assertRaises(NoSet):
                    scale.permit(*sets)
                check_as(self, scale, ((1,), (0, 1), (1, 2), (0, 1, 2)))


class ForbidTest(unittest.TestCase):

    def test_every_set_on_every_scale(self):
        for many in (1, 2, 3):
            for family in plain.families(many):
                for states in plain.every_set(many):
                    scale = Scale(many, *family)
                    if states in plain.edges(family):
                        self.assertIsNone(scale.forbid(states))
                        check_as(self, scale, tuple(other for other in family if other != states))
                    else:
                        with self.assertRaises(NoEdge):
                            scale.forbid(states)
                        check_as(self, scale, family)

    def test_one_after_another(self):
        scale = Scale(7, *plain.every_set(7)[::5])
        left = list(scale.allowed)
        while scale.edges:
            states = scale.edges[len(left) % len(scale.edges)]
            scale.forbid(states)
            left.remove(states)
            self.assertEqual(scale.allowed, tuple(left))
            self.assertEqual(scale.edges, plain.edges(tuple(left)))
        self.assertEqual(scale, Scale(7))

    def test_refused(self):
        scale = Scale(3, (0, 1), (1, 2))
        for thing in plain.NEVER_SETS + (scale, (3,), (1, 3)):
            with self.assertRaises(NoSet):
                scale.forbid(thing)
        for states in ((1,), (0, 1, 2), (0,), ()):
            with self.assertRaises(NoEdge):
                scale.forbid(states)
        check_as(self, scale, ((1,), (0, 1), (1, 2), (0, 1, 2)))


class AssignTest(unittest.TestCase):

    def assign_both(self, scale, sets):
        """Both ways must do the same; the scale is left changed by the second one."""
        twin = Scale(scale.many, *scale.allowed)
        twin.allowed = sets
        self.assertIsNone(scale.assign_allowed(sets))
        self.assertEqual(twin.allowed, scale.allowed)

    def refuse_both(self, error, scale, sets):
        before = scale.allowed
        with self.assertRaises(error) as by_sign:
            scale.allowed = sets
        self.assertEqual(scale.allowed, before)
        with self.assertRaises(error) as by_name:
            scale.assign_allowed(sets)
        check_as(self, scale, before)
        return by_sign.exception, by_name.exception

    def test_every_scale_in_any_order(self):
        for many in (1, 2, 3):
            for family in plain.families(many):
                scale = Scale(many, (0,))
                for sets in (family, family[::-1], family[1:] + family[:1], family[::2] + family[1::2]):
                    scale.assign_allowed((tuple(range(many)),))
                    self.assign_both(scale, sets)
                    check_as(self, scale, family)

    def test_what_was_allowed_may_be_assigned(self):
        for many in range(1, 8):
            spans = Scale.spans(many)
            scale = Scale(many)
            scale.allowed = spans.allowed
            self.assertEqual(scale, spans)
            scale.allowed = scale.allowed
            self.assertEqual(scale, spans)

    def test_all_that_is_refused_of_three_states(self):
        every = plain.every_set(3)
        scale = Scale(3, (0, 1), (1, 2))
        for bits in range(256):
            sets = tuple(states for at, states in enumerate(every) if bits >> at & 1)[::-1]
            if (0, 1, 2) not in sets:
                self.refuse_both(NoSet, scale, sets)
            elif plain.gap(sets) is not None:
                for error in self.refuse_both(NotClosed, scale, sets):
                    self.assertEqual((error.first, error.second), plain.gap(sets))
            else:
                Scale(3).assign_allowed(sets)

    def test_the_gap_is_the_first_in_order(self):
        scale = Scale(4)
        sets = ((0, 1, 2, 3), (2, 3), (0, 3), (0, 1), (3,))
        for error in self.refuse_both(NotClosed, scale, sets):
            self.assertEqual((error.first, error.second), ((3,), (0, 1)))
        sets = ((0, 1, 2, 3), (0, 1, 3), (0, 2, 3), (1, 2, 3), (0, 3), (3,), (1, 3))
        for error in self.refuse_both(NotClosed, scale, sets):
            self.assertEqual((error.first, error.second), ((0, 2, 3), (1, 2, 3)))
        for many in (4, 5, 6):
            for sets in plain.samples(many):
                sets = tuple(set(sets) | {tuple(range(many))})
                if plain.gap(sets) is not None:
                    for error in self.refuse_both(NotClosed, Scale(many), sets):
                        self.assertEqual((error.first, error.second), plain.gap(sets))

    def test_no_set(self):
        scale = Scale(3, (0, 1), (1, 2))
        full = (0, 1, 2)
        for sets in (None, 0, True, "", "states 3", {}, [full], [(0,), full], {full: True}, (), full, ((0,),), scale,
                     (full, full), ((0,), (0,), full), (full, (0,), full), (full, (True,)), (full, (3,)), (full, 0),
                     (full, [0]), (full, (1, 0)), (list(full),), (full, None), (full, scale), ((False, 1, 2),),
                     ((0, 1, 2, 3),), ((0, 1),)):
            self.refuse_both(NoSet, scale, sets)

    def test_no_set_ahead_of_not_closed(self):
        scale = Scale(3)
        self.refuse_both(NoSet, scale, ((0, 1), (1, 2)))
        self.refuse_both(NoSet, scale, ((0, 1), (1, 2), (0, 1, 2), (0, 1)))
        self.refuse_both(NoSet, scale, ((0, 1), (1, 2), (0, 1, 2), (2, 1)))

    def test_inside_a_with_statement_too(self):
        scale = Scale(2)
        with self.assertRaises(NotClosed):
            with scale.trial():
                scale.allowed = ((0,), (0, 1))
                scale.allowed = ((0,), (1,), (0, 1))
        self.assertEqual(scale, Scale(2))


class ChangeTest(unittest.TestCase):

    def test_in_order_and_their_number(self):
        scale = Scale(3)
        number = scale.change(("permit", (0, 1)), ("permit", (1, 2)), ("forbid", (0, 1)))
        self.assertEqual(number, 3)
        self.assertIs(type(number), int)
        check_as(self, scale, ((1,), (1, 2), (0, 1, 2)))
        self.assertEqual(scale.change(("allowed", ((0,), (0, 1, 2))), ("permit", (1,))), 2)
        check_as(self, scale, ((), (0,), (1,), (0, 1, 2)))
        self.assertEqual(scale.change(("permit", (0,)), ("allowed", ((0, 1, 2), (2,)))), 2)
        check_as(self, scale, ((2,), (0, 1, 2)))

    def test_no_deeds(self):
        scale = Scale(3, (0,))
        self.assertEqual(scale.change(), 0)
        self.assertEqual(scale, Scale(3, (0,)))

    def test_a_deed_without_effect_counts(self):
        scale = Scale(3, (0,))
        self.assertEqual(scale.change(("permit", (0,)), ("permit", (0, 1, 2)), ("permit", (0,))), 3)

    def refused(self, error, *deeds):
        scale = Scale(3, (0, 1), (1, 2))
        for before in ((), (("permit", (0,)),), (("forbid", (1, 2)), ("allowed", ((), (0, 1, 2))))):
            with self.assertRaises(error) as caught:
                scale.change(*before, *deeds)
            check_as(self, scale, ((1,), (0, 1), (1, 2), (0, 1, 2)))
        return caught.exception

    def test_no_deed(self):
        for deed in (None, 0, True, "permit", "", (), ("permit",), ("permit", (0,), (1,)), ["permit", (0,)], {},
                     ("Permit", (0,)), ("allow", (0,)), ("assign_allowed", ((0, 1, 2),)), ("", ()), (0, (0,)),
                     (None, (0,)), ((0,), "permit"), (["permit"], (0,)), ({}, (0,)), (("permit",), (0,)),
                     (Scale(3), (0,)), Scale(3), ("change", ()), ("permit ", (0,)), (True, (0,))):
            self.refused(NoDeed, deed)
            self.refused(NoDeed, deed, ("permit", None))

    def test_what_the_deeds_raise(self):
        for thing in plain.NEVER_SETS + (Scale(3), (3,)):
            self.refused(NoSet, ("permit", thing))
            self.refused(NoSet, ("forbid", thing))
            self.refused(NoSet, ("permit", thing), None)
        self.refused(NoSet, ("permit", ((0,), (1,))))
        self.refused(NoEdge, ("forbid", (0, 1, 2)))
        self.refused(NoEdge, ("forbid", (2,)))
        for sets in (None, [(0, 1, 2)], (), ((0,),), ((0, 1, 2), (0, 1, 2)), (0, 1, 2), "permit"):
            self.refused(NoSet, ("allowed", sets))
        error = self.refused(NotClosed, ("allowed", ((0, 1, 2), (1, 2), (0, 1))))
        self.assertEqual((error.first, error.second), ((0, 1), (1, 2)))

    def test_the_first_refusal_counts(self):
        self.refused(NoDeed, ("permit", (0, 1)), ("permit",), ("permit", None))
        self.refused(NoSet, ("permit", None), ("permit",))
        self.refused(NoEdge, ("permit", (0,)), ("forbid", (0, 1, 2)), ("permit", None))
        self.refused(NotClosed, ("allowed", ((0,), (1,), (0, 1, 2))), ("forbid", (0, 1, 2)))

    def test_what_is_an_edge_depends_on_the_deeds_before(self):
        scale = Scale(3, (0, 1), (1, 2))
        with self.assertRaises(NoEdge):
            scale.change(("forbid", (1,)), ("forbid", (0, 1)))
        check_as(self, scale, ((1,), (0, 1), (1, 2), (0, 1, 2)))
        self.assertEqual(scale.change(("forbid", (0, 1)), ("forbid", (1,))), 2)
        check_as(self, scale, ((1, 2), (0, 1, 2)))

    def test_inside_a_trial(self):
        scale = Scale(2)
        with scale.trial():
            scale.permit((0,))
            try:
                scale.change(("permit", (1,)), ("permit", None))
            except NoSet:
                pass
            self.assertEqual(scale, Scale(2, (0,)))
        self.assertEqual(scale, Scale(2, (0,)))


class TrialTest(unittest.TestCase):

    def test_without_an_exception_all_stays(self):
        scale = Scale(2)
        with scale.trial():
            scale.permit((0,))
        check_as(self, scale, ((0,), (0, 1)))

    def test_an_exception_goes_on_and_all_is_taken_back(self):
        for error in (ValueError, NoSet, KeyError, StopIteration, GeneratorExit, KeyboardInterrupt, Stop):
            scale = Scale(3, (0, 1), (1, 2))
            thrown = error("thrown")
            with self.assertRaises(error) as caught:
                with scale.trial():
                    scale.forbid((1, 2))
                    scale.permit((0,), (2,))
                    scale.allowed = ((2,), (0, 1, 2))
                    raise thrown
            self.assertIs(caught.exception, thrown)
            check_as(self, scale, ((1,), (0, 1), (1, 2), (0, 1, 2)))

    def test_a_caught_exception_does_not_leave_the_block(self):
        scale = Scale(2)
        with scale.trial():
            scale.permit((0,))
            try:
                scale.permit(None)
            except NoSet:
                scale.permit((1,))
        check_as(self, scale, ((), (0,), (1,), (0, 1)))

    def test_when_the_block_was_entered(self):
        scale = Scale(2)
        trial = scale.trial()
        scale.permit((0,))
        with self.assertRaises(Stop):
            with trial:
                scale.permit((1,))
                raise Stop
        check_as(self, scale, ((0,), (0, 1)))

    def test_a_trial_that_is_not_entered(self):
        scale = Scale(2)
        scale.trial()
        scale.permit((0,))
        check_as(self, scale, ((0,), (0, 1)))

    def test_leaving_by_return(self):
        scale = Scale(2)

        def leave():
            with scale.trial():
                scale.permit((0,))
                return scale.allowed

        self.assertEqual(leave(), ((0,), (0, 1)))
        check_as(self, scale, ((0,), (0, 1)))

    def test_blocks_in_blocks(self):
        scale = Scale(3)
        with scale.trial():
            scale.permit((0,))
            with self.assertRaises(Stop):
                with scale.trial():
                    scale.permit((1,))
                    with scale.trial():
                        scale.permit((2,))
                    raise Stop
            check_as(self, scale, ((0,), (0, 1, 2)))
        check_as(self, scale, ((0,), (0, 1, 2)))
        with self.assertRaises(Stop):
            with scale.trial():
                with scale.trial():
                    scale.permit((1,))
                raise Stop
        check_as(self, scale, ((0,), (0, 1, 2)))

    def test_two_scales(self):
        one, other = Scale(2), Scale(2)
        with self.assertRaises(Stop):
            with one.trial():
                one.permit((0,))
                other.permit((0,))
                raise Stop
        self.assertEqual((one, other), (Scale(2), Scale(2, (0,))))


class ApartTest(unittest.TestCase):

    def test_scales_do_not_change_with_each_other(self):
        first = Scale(3, (0, 1))
        others = [Scale(3, *first.allowed), first.meet(first), first.join(first), Scale.read(first.text())]
        first.permit((0,), (2,))
        for other in others:
            self.assertEqual(other.allowed, ((0, 1), (0, 1, 2)))
        for other in others:
            before = [scale.allowed for scale in others if scale is not other]
            other.allowed = ((), (0, 1, 2))
            self.assertEqual([scale.allowed for scale in others if scale is not other], before)
        self.assertEqual(first.allowed, ((), (0,), (2,), (0, 1), (0, 1, 2)))

    def test_what_was_returned_does_not_change(self):
        scale = Scale(3, (0, 1), (1, 2))
        allowed, edges, text, around = scale.allowed, scale.edges, scale.text(), scale.round((0,))
        scale.permit((0,))
        scale.forbid((1, 2))
        scale.allowed = ((), (0, 1, 2))
        self.assertEqual(allowed, ((1,), (0, 1), (1, 2), (0, 1, 2)))
        self.assertEqual(edges, ((0, 1), (1, 2)))
        self.assertEqual(text, "states 3\n1\n0 1\n1 2\n0 1 2\n")
        self.assertEqual(around, (0, 1))

    def test_arguments_are_not_modified(self):
        sets = [(0, 1), (1, 2)]
        deeds = [("permit", (0, 1)), ("allowed", ((0, 1, 2), (0, 1)))]
        wrong = [(0, 1, 2), [0]]
        scale = Scale(3, *sets)
        scale.permit(*sets)
        scale.change(*deeds)
        for thing in (wrong, wrong[1]):
            with self.assertRaises(NoSet):
                scale.assign_allowed(thing)
            with self.assertRaises(NoSet):
                scale.round(thing)
        self.assertEqual(sets, [(0, 1), (1, 2)])
        self.assertEqual(deeds, [("permit", (0, 1)), ("allowed", ((0, 1, 2), (0, 1)))])
        self.assertEqual(wrong, [(0, 1, 2), [0]])
