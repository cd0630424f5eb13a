"""Scales: which sets of states are allowed."""

from coarseviews.errors import NoDeed, NoEdge, NoLabels, NoMany, NoScale, NoSet, NoText, NotClosed, OtherStates
from coarseviews.masks import full_mask, gap_in, grown, in_order, is_ascending, is_edge, is_integer
from coarseviews.masks import least_around, mask_of, states_of


class Trial:
    """One block in which a scale is changed for good only if no exception leaves it."""

    def __init__(self, scale):
        self._scale = scale
        self._kept = ()

    def __enter__(self):
        self._kept = self._scale._family
        return self._scale

    def __exit__(self, kind, value, trace):
        scale = self._scale
        if kind is not None:
            scale._family = self._kept


class Scale:
    """Some sets of the states from 0 to many - 1: the full set and, with any two, their common states."""

    MOST = 7

    def __init__(self, many, *sets):
        check_many(many)
        self._many = many
        self._family = (full_mask(many),)
        self.permit(*sets)

    def __eq__(self, other):
        return isinstance(other, Scale) and self._many == other._many and self._family == other._family

    @staticmethod
    def is_set(many, thing):
        """Whether a value is a set of the states below many."""
        check_many(many)
        return is_ascending(thing, many)

    @classmethod
    def of_parts(cls, labels):
        """The scale of the sets made of whole parts: states with equal labels form a part."""
        if not is_labels(labels):
            raise NoLabels("the labels are not a tuple of 1 to 7 integers")
        many = len(labels)
        # A set of whole parts is what the sets without one of its other parts have in common.
        sets = [tuple([state for state in range(many) if labels[state] != label]) for label in labels]
        return cls(many, *sets)

    @classmethod
    def spans(cls, many):
        """The scale of the empty set and all sets of consecutive states."""
        check_many(many)
        sets = [tuple(range(low, high)) for low in range(many) for high in range(low, many + 1)]
        return cls(many, *sets)

    @classmethod
    def read(cls, text):
        """The scale that has this text."""
        if not isinstance(text, str):
            raise NoText("not a text")
        lines = text.split("\n")
        many = many_of_head(lines[0])
        if many == 0:
            raise NoText("the first line does not tell the number of states")
        known = sets_by_line(many)
        sets = [known[line] for line in lines[1:] if line in known]
        scale = cls(many, *sets)
        # A scale has one text: whatever was unknown, missing, repeated or out of order shows here.
        if scale.text() != text:
            raise NoText("the lines are not those of a scale")
        return scale

    @property
    def many(self):
        """The number of states."""
        return self._many

    @property
    def allowed(self):
        """All allowed sets, in order."""
        return tuple([states_of(mask) for mask in self._family])

    @allowed.setter
    def allowed(self, value):
        self.assign_allowed(value)

    @property
    def edges(self):
        """All allowed sets that do not follow from larger ones, in order."""
        return tuple([states_of(mask) for mask in self._family if is_edge(self._family, mask)])

    def assign_allowed(self, sets):
        """Allow exactly the sets of a tuple."""
        if not isinstance(sets, tuple):
            raise NoSet("the allowed sets are not a tuple")
        masks = in_order([self._mask(states) for states in sets])
        if full_mask(self._many) not in masks or len(set(masks)) != len(masks):
            raise NoSet("the full set is missing, or a set is there twice")
        gap = gap_in(masks)
        if gap is not None:
            first, second = gap
            raise NotClosed(states_of(first), states_of(second))
        self._family = masks

    def round(self, states):
        """The smallest allowed set that contains a set."""
        return states_of(least_around(self._family, self._mask(states)))

    def allows(self, states):
        """Whether a set is allowed."""
        return self._mask(states) in self._family

    def permit(self, *sets):
        """Allow more sets and all that follow; by how many the allowed sets have become more."""
        more = [self._mask(states) for states in sets]
        before = len(self._family)
        self._family = grown(self._family, more)
        return len(self._family) - before

    def forbid(self, states):
        """Forbid an edge."""
        mask = self._mask(states)
        if not is_edge(self._family, mask):
            raise NoEdge("the set is not an edge")
        self._family = tuple([other for other in self._family if other != mask])

    def change(self, *deeds):
        """Perform deeds in order, all or none of them; their number."""
        with self.trial():
            for deed in deeds:
                self._perform(deed)
        return len(deeds)

    def trial(self):
        """An object for one with statement, which takes back what a failing block has changed."""
        return Trial(self)

    def meet(self, other):
        """The scale of the sets that both scales allow."""
        check_scale(other, self._many)
        sets = [states for states in self.allowed if other.allows(states)]
        return Scale(self._many, *sets)

    def join(self, other):
        """The scale of the sets that one or the other scale allows, and of all that follow."""
        check_scale(other, self._many)
        sets = self.allowed + other.allowed
        return Scale(self._many, *sets)

    def text(self):
        """The number of states and the allowed sets, a line each."""
        lines = [head_of(self._many)] + [line_of(states) for states in self.allowed]
        return "".join([line + "\n" for line in lines])

    def _mask(self, states):
        if not Scale.is_set(self._many, states):
            raise NoSet("not an ascending tuple of different states")
        return mask_of(states)

    def _perform(self, deed):
        if not isinstance(deed, tuple) or len(deed) != 2:
            raise NoDeed("a deed is not a pair")
        word, given = deed
        if word == "permit":
            self.permit(given)
        elif word == "forbid":
            self.forbid(given)
        elif word == "allowed":
            self.assign_allowed(given)
        else:
            raise NoDeed("a deed has an unknown first word")


def check_many(many):
    """Raise NoMany for all but a number of states."""
    if not is_integer(many) or not 1 <= many <= Scale.MOST:
        raise NoMany("the number of states is not an integer from 1 to 7")


def check_scale(thing, many):
    """Raise NoScale for all but a scale, and OtherStates for one of another number of states."""
    if not isinstance(thing, Scale):
        raise NoScale("not a scale")
    if thing.many != many:
        raise OtherStates("a scale has another number of states")


def family_of(scale):
    """The masks of all sets that a scale allows."""
    return scale._family


def scale_of(many, family):
    """A new scale that allows the sets of a family."""
    scale = Scale(many)
    scale._family = family
    return scale


def is_labels(thing):
    """Whether a value is a tuple of integers, one for each of a scale's states."""
    if not isinstance(thing, tuple) or not 1 <= len(thing) <= Scale.MOST:
        return False
    return all([is_integer(label) for label in thing])


def head_of(many):
    """The first line of the text of a scale."""
    return f"states {many}"


def many_of_head(line):
    """The number of states that the first line of a text tells, 0 if it tells none."""
    for many in range(1, Scale.MOST + 1):
        if line == head_of(many):
            return many
    return 0


def line_of(states):
    """The line for a set in the text of a scale."""
    if states == ():
        return "-"
    return " ".join([str(state) for state in states])


def sets_by_line(many):
    """Every set of states below many, by its line."""
    sets = [states_of(mask) for mask in range(1 << many)]
    return {line_of(states): states for states in sets}
