"""What is lost when a step is seen through a scale, and which scales lose nothing."""

from itertools import combinations

from coarseviews.errors import NoScale, NoStep, NotBelow, OtherStates, TooMany
from coarseviews.masks import every_mask, grown, image, inverse, is_ascending, is_edge, is_integer, least_around
from coarseviews.masks import mask_of, states_of
from coarseviews.scales import Scale, check_scale, family_of, scale_of
from coarseviews.steps import Step, moves_of

MOST_BETWEEN = 10


def exact(scale, step):
    """The table of a step that is exact, or the first set with a state that is shown wrongly."""
    check_steps(scale, (step,))
    family = family_of(scale)
    moves = moves_of(step)
    for mask in every_mask(scale.many):
        lost = states_of(lost_from(family, moves, mask))
        if lost != ():
            return "lost", states_of(mask), lost[0]
    return "exact", table_of(family, moves)


def shows(scale, step, thing):
    """Whether a value shows that a step is exact, or that something is lost."""
    check_steps(scale, (step,))
    if isinstance(thing, tuple) and len(thing) == 3:
        return shows_loss(family_of(scale), moves_of(step), thing)
    # If something is lost, the answer is a tuple of three, which the value is not.
    return is_same(thing, exact(scale, step))


def refined(scale, *steps):
    """The coarsest of all finer scales on which all the steps are exact."""
    check_steps(scale, steps)
    found = {mask: True for mask in family_of(scale)}
    waiting = list(found)
    while waiting:
        mask = waiting.pop()
        for step in steps:
            sent = inverse(moves_of(step), mask)
            if sent not in found:
                found[sent] = True
                waiting.append(sent)
    # Back leads from common states to common states, so that what follows now brings nothing new by back.
    return scale_of(scale.many, grown(family_of(scale), list(found)))


def coarsened(scale, *steps):
    """The finest of all coarser scales on which all the steps are exact."""
    check_steps(scale, steps)
    family = family_of(scale)
    while True:
        kept = tuple([mask for mask in family if leads_into(family, steps, mask)])
        if kept == family:
            return scale_of(scale.many, kept)
        family = kept


def scales_between(low, high):
    """All scales between two, those with fewer allowed sets first."""
    for family in families_between(low, high):
        yield scale_of(low.many, family)


def check_steps(scale, steps):
    """Raise NoScale, NoStep or OtherStates for all but a scale and steps of one number of states."""
    if not isinstance(scale, Scale):
        raise NoScale("not a scale")
    for step in steps:
        if not isinstance(step, Step):
            raise NoStep("not a step")
    for step in steps:
        if step.many != scale.many:
            raise OtherStates("a step has another number of states")


def lost_from(family, moves, mask):
    """The states that are shown from a mask, but only because it is rounded first."""
    shown = least_around(family, image(moves, least_around(family, mask)))
    return shown & ~least_around(family, image(moves, mask))


def table_of(family, moves):
    """Each edge with the states that are sent into it only."""
    edges = [mask for mask in family if is_edge(family, mask)]
    return tuple([(states_of(mask), states_of(inverse(moves, mask))) for mask in edges])


def shows_loss(family, moves, thing):
    """Whether a tuple of three shows that something is lost."""
    word, states, state = thing
    if word != "lost" or not is_ascending(states, len(moves)) or not is_integer(state):
        return False
    return state in states_of(lost_from(family, moves, mask_of(states)))


def is_same(thing, wanted):
    """Whether a value is the wanted text, integer or tuple of such, also in its kinds."""
    if isinstance(wanted, tuple):
        if not isinstance(thing, tuple) or len(thing) != len(wanted):
            return False
        return all([is_same(one, other) for one, other in zip(thing, wanted)])
    return (is_integer(thing) or isinstance(thing, str)) and thing == wanted


def leads_into(family, steps, mask):
    """Whether back leads from a mask into a family by each of the steps."""
    return all([inverse(moves_of(step), mask) in family for step in steps])


def families_between(low, high):
    """The families of all scales between two, in the order of scales_between."""
    if not isinstance(low, Scale):
        raise NoScale("not a scale")
    check_scale(high, low.many)
    least = family_of(low)
    most = family_of(high)
    if not all([mask in most for mask in least]):
        raise NotBelow("the high scale is not finer than the low one")
    more = [mask for mask in most if mask not in least]
    if len(more) > MOST_BETWEEN:
        raise TooMany(len(more), MOST_BETWEEN)
    found = []
    for size in range(len(more) + 1):
        # Two families of one size are compared at the first set that only one of them has: so are their choices.
        for chosen in combinations(more, size):
            family = grown(least, chosen)
            # A larger one has sets that follow from the chosen ones, but were not chosen.
            if len(family) == len(least) + size:
                found.append(family)
    return found
