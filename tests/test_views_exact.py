"""Which steps are exact on a scale: exact and shows."""

import unittest
from itertools import permutations

import plain
import plain_steps
from building import build, scale_of
from coarseviews.errors import NoSet
from coarseviews.scales import Scale
from coarseviews.steps import Choice, Guard, Loop, Sequence, Step
from coarseviews.views import exact, shows

SPANS = Scale.spans(4)
MOVE = Step((1,), (2,), (3,), ())
PARITY = Scale.of_parts((0, 1, 0, 1))
TURN = Step((1,), (2,), (3,), (0,))
TABLE = (((0, 2), (1, 3)), ((1, 3), (0, 2)))


def some_pairs(seed, number, least=1, most=5, depth=2):
    """What some scales allow, each with the plan of a step; about one third of the steps are exact."""
    numbers = plain_steps.Numbers(seed)
    for at in range(number):
        many = least + at % (most - least + 1)
        plan, allowed = numbers.some_plan(many, depth), numbers.some_allowed(many)
        if at % 3 == 0:
            allowed = plain_steps.refined(allowed, [plain_steps.rows_of(plan)])
        yield allowed, plan


def changed(thing):
    """The same with one part in another kind, left out, doubled or exchanged, at every depth."""
    found = []
    if isinstance(thing, tuple):
        for at, part in enumerate(thing):
            for other in changed(part):
                found.append(thing[:at] + (other,) + thing[at + 1:])
            found += [thing[:at] + thing[at + 1:], thing[:at] + (part,) + thing[at:], thing[:at] + (None,) + thing[at:]]
        found += [list(thing), thing[::-1], thing + ((),), (thing,), dict(enumerate(thing)), str(thing)]
    elif isinstance(thing, int):
        found += [thing + 1, thing - 1, thing == 1, str(thing), (thing,), None, 9999999999999, [thing], bool(thing)]
    else:
        found += [thing.upper(), thing + " ", "", thing[:-1], [thing], (thing,), None, 0, True, {thing: thing}]
    return [other for other in found if repr(other) != repr(thing)]


class ExactTest(unittest.TestCase):

    def check(self, allowed, rows, step):
        found = exact(scale_of(allowed), step)
        self.assertEqual(repr(found), repr(plain_steps.exact(allowed, rows)))
        is_exact = found[0] == "exact"
        for sets in (allowed, plain.edges(allowed)):
            self.assertIs(is_exact, all(plain_steps.back(rows, states) in allowed for states in sets))

    def test_the_session(self):
        self.assertEqual(exact(SPANS, MOVE), ("lost", (0, 3), 2))
        self.assertEqual(exact(PARITY, TURN), ("exact", TABLE))

    def test_every_step_on_every_scale_of_one_and_two_states(self):
        for many in (1, 2):
            every = plain.every_set(many)
            for allowed in plain.families(many):
                for first in every:
                    for second in every[:None if many == 2 else 1]:
                        rows = (first, second)[:many]
                        self.check(allowed, rows, Step(*rows))

    def test_steps_of_three_states_on_every_scale(self):
        every = plain.every_set(3)
        for number, allowed in enumerate(plain.families(3)):
            for at in range(number % 7, 512, 7):
                rows = (every[at % 8], every[at // 8 % 8], every[at // 64])
                self.check(allowed, rows, Step(*rows))

    def test_more_states_and_programs_as_a_whole(self):
        for allowed, plan in some_pairs(50, 150):
            self.check(allowed, plain_steps.rows_of(plan), build(plan))
        for allowed, plan in some_pairs(51, 24, 6, 7):
            self.check(allowed, plain_steps.rows_of(plan), build(plan))

    def test_a_program_counts_by_its_rows(self):
        lossy = Sequence(MOVE, Guard(4, ()))
        self.assertEqual(exact(SPANS, lossy), exact(SPANS, Step((), (), (), ())))
        self.assertEqual(exact(SPANS, lossy)[0], "exact")
        self.assertEqual(exact(SPANS, Sequence(Guard(4, (0, 1, 2, 3)), MOVE)), ("lost", (0, 3), 2))

    def test_without_edges(self):
        for many in range(1, 8):
            for rows in ([()] * many, [(0,)] * many):
                self.assertEqual(exact(Scale(many), Step(*rows)), ("exact", ()))

    def test_the_first_set_and_the_smallest_state(self):
        self.assertEqual(exact(Scale(3, (0,), (1, 2), ()), Step((1,), (0,), ())), ("lost", (2,), 0))
        # From 0, 1 and 3 the state 3 is lost; as a tuple this set would come before 0 and 3.
        self.assertEqual(plain_steps.lost(SPANS.allowed, MOVE.rows, (0, 1, 3)), (3,))
        self.assertEqual(plain_steps.lost(SPANS.allowed, MOVE.rows, (0, 3)), (2, 3))
        self.assertEqual(exact(SPANS, MOVE), ("lost", (0, 3), 2))
        # Seen through a scale, nothing may be something.
        self.assertEqual(exact(Scale(3, (2,)), Step((), (), (0,))), ("lost", (), 0))

    def test_kinds_of_what_is_returned(self):
        for found in (exact(SPANS, MOVE), exact(PARITY, TURN)):
            self.assertIs(type(found), tuple)
            self.assertIs(type(found[0]), str)
            self.assertIs(type(found[1]), tuple)
        self.assertIs(type(found[1][0]), tuple)
        self.assertIs(type(exact(SPANS, MOVE)[2]), int)

    def test_nothing_is_modified(self):
        scale, step = Scale.spans(4), Sequence(MOVE, TURN)
        for _ in range(2):
            self.assertEqual(exact(scale, step), ("lost", (0, 2), 3))
            self.assertTrue(shows(scale, step, exact(scale, step)))
        self.assertEqual((scale, step.rows), (SPANS, ((2,), (3,), (0,), ())))

    def test_after_a_change_of_the_scale(self):
        scale = Scale.spans(4)
        scale.permit((0, 3))
        scale.permit((0, 2), (1, 3))
        self.assertEqual(exact(scale, TURN), plain_steps.exact(scale.allowed, TURN.rows))
        scale.forbid(scale.edges[0])
        self.assertEqual(exact(scale, TURN), plain_steps.exact(scale.allowed, TURN.rows))


class ShowsTest(unittest.TestCase):

    def is_right(self, allowed, rows, thing):
        """Whether a value of the right kinds is right."""
        if thing[0] == "lost":
            return thing[2] in plain_steps.lost(allowed, rows, thing[1])
        return thing == plain_steps.exact(allowed, rows)

    def test_every_set_and_state(self):
        for allowed, plan in some_pairs(52, 60, 1, 4):
            scale, step = scale_of(allowed), build(plan)
            for states in plain.every_set(scale.many):
                for state in range(-1, scale.many + 1):
                    thing = ("lost", states, state)
                    self.assertIs(shows(scale, step, thing), self.is_right(allowed, step.rows, thing))
        for allowed, plan in some_pairs(53, 8, 6, 7):
            scale, step = scale_of(allowed), build(plan)
            for states in plain.every_set(scale.many)[::3]:
                thing = ("lost", states, states[0] if states else 6)
                self.assertIs(shows(scale, step, thing), self.is_right(allowed, step.rows, thing))

    def test_the_answer_and_not_the_other_one(self):
        for allowed, plan in some_pairs(54, 90):
            scale, step = scale_of(allowed), build(plan)
            self.assertIs(shows(scale, step, exact(scale, step)), True)
            table = tuple((states, step.back(states)) for states in scale.edges)
            self.assertIs(shows(scale, step, ("exact", table)), plain_steps.is_exact(allowed, step.rows))

    def test_other_right_answers(self):
        self.assertIs(shows(SPANS, MOVE, ("lost", (0, 3), 2)), True)
        self.assertIs(shows(SPANS, MOVE, ("lost", (0, 3), 3)), True)
        self.assertIs(shows(SPANS, MOVE, ("lost", (0, 3), 1)), False)
        self.assertIs(shows(SPANS, MOVE, ("lost", (0, 1, 3), 3)), True)
        self.assertIs(shows(SPANS, MOVE, ("lost", (0, 1, 3), 2)), False)
        self.assertIs(shows(SPANS, MOVE, ("lost", (0, 1), 2)), False)

    def test_the_table_though_something_is_lost(self):
        table = tuple((states, MOVE.back(states)) for states in SPANS.edges)
        self.assertIs(shows(SPANS, MOVE, ("exact", table)), False)
        self.assertIs(shows(SPANS, MOVE, ("exact", ())), False)
        self.assertIs(shows(PARITY, TURN, ("exact", TABLE)), True)

    def test_one_part_otherwise(self):
        for thing in changed(("exact", TABLE)):
            self.assertIs(shows(PARITY, TURN, thing), False, thing)
        for thing in changed(("exact", ())):
            self.assertIs(shows(Scale(4), TURN, thing), False, thing)
        for scale, step, thing in ((SPANS, MOVE, ("lost", (0, 3), 2)), (Scale(2, (0,), ()), Step((1,), ()), None),
                                   (Scale(2, (0,)), Step((0,), ()), None)):
            thing = thing or exact(scale, step)
            self.assertIs(shows(scale, step, thing), True)
            for other in changed(thing):
                right = [("lost", states, state) for states in plain.every_set(scale.many)
                         for state in plain_steps.lost(scale.allowed, step.rows, states)]
                if repr(other) not in [repr(one) for one in right]:
                    self.assertIs(shows(scale, step, other), False, other)

    def test_bools_for_integers(self):
        scale, step = Scale(2, (0,), ()), Step((1,), (0,))
        self.assertEqual(exact(scale, step), ("lost", (1,), 1))
        for states in plain.every_set(2):
            for state in (0, 1):
                right = shows(scale, step, ("lost", states, state))
                self.assertIs(right, state in plain_steps.lost(scale.allowed, step.rows, states))
                self.assertIs(shows(scale, step, ("lost", states, bool(state))), False)
                odd = tuple(bool(one) for one in states)
                self.assertIs(shows(scale, step, ("lost", odd, state)), right and odd == () == states)
        both = Scale(2, (0,), (1,))
        swap = Step((1,), (0,))
        self.assertIs(shows(both, swap, ("exact", (((0,), (1,)), ((1,), (0,))))), True)
        self.assertIs(shows(both, swap, ("exact", (((False,), (1,)), ((1,), (0,))))), False)
        self.assertIs(shows(both, swap, ("exact", (((0,), (True,)), ((1,), (0,))))), False)

    def test_odd_values(self):
        nested = ()
        for _ in range(8):
            nested = (nested,)
        many_parts = tuple(range(4000))
        odd = (None, 0, 1, True, False, "", "exact", "lost", (), [], {}, SPANS, MOVE, Scale(1), Guard(4, ()), nested,
               many_parts, list(many_parts), NoSet("odd"), SPANS.trial(), 9999999999999, -1, "states 4\n", ((),),
               {"exact": TABLE}, ["exact", TABLE])
        for scale, step in ((SPANS, MOVE), (PARITY, TURN), (Scale(4), TURN)):
            for one in odd:
                self.assertIs(shows(scale, step, one), False)
                self.assertIs(shows(scale, step, ("lost", one, 2)), False)
                self.assertIs(shows(scale, step, (one, (0, 3), 2)), one == "lost" and scale == SPANS)
                self.assertIs(shows(scale, step, (one, TABLE)), one == "exact" and scale == PARITY)
                self.assertIs(shows(scale, step, ("exact", one)), one == () and scale == Scale(4))
                self.assertIs(shows(scale, step, ("exact", TABLE, one)), False)
                self.assertIs(shows(scale, step, (one,)), False)
                if type(one) is not int:
                    self.assertIs(shows(scale, step, ("lost", (0, 3), one)), False)

    def test_what_is_passed_stays(self):
        thing = ["lost", [0, 3], {2: (0, 1)}]
        self.assertIs(shows(SPANS, MOVE, thing), False)
        self.assertEqual(thing, ["lost", [0, 3], {2: (0, 1)}])


class NumberedOtherwiseTest(unittest.TestCase):

    def check(self, allowed, rows, places):
        there = tuple(plain_steps.numbered(places, states) for states in allowed)
        rows_there = plain_steps.numbered_rows(places, rows)
        scale, step = Scale(len(rows), *there), Step(*rows_there)
        before, after = exact(scale_of(allowed), Step(*rows)), exact(scale, step)
        self.assertEqual(before[0], after[0])
        if before[0] == "exact":
            moved = {plain_steps.numbered(places, one): plain_steps.numbered(places, two) for one, two in before[1]}
            self.assertEqual(dict(after[1]), moved)
        else:
            self.assertTrue(shows(scale, step, ("lost", plain_steps.numbered(places, before[1]), places[before[2]])))

    def test_all_ways_to_number_the_states(self):
        for allowed, plan in some_pairs(55, 40, 1, 4):
            rows = plain_steps.rows_of(plan)
            for places in permutations(range(len(rows))):
                self.check(allowed, rows, places)

    def test_some_ways_for_more_states(self):
        for allowed, plan in some_pairs(56, 12, 5, 7):
            rows = plain_steps.rows_of(plan)
            for places in list(permutations(range(len(rows))))[5::29][:4]:
                self.check(allowed, rows, places)


class ProgramsTest(unittest.TestCase):

    def test_every_kind_of_step(self):
        for step in (MOVE, Guard(4, (0, 3)), Sequence(MOVE, TURN), Choice(MOVE, TURN), Loop(TURN), Loop(MOVE)):
            for scale in (SPANS, PARITY, Scale(4), Scale(4, (0,), (1, 2), (0, 3))):
                self.assertEqual(exact(scale, step), plain_steps.exact(scale.allowed, step.rows))
                self.assertTrue(shows(scale, step, exact(scale, step)))
