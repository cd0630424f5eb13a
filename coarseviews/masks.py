"""Sets of states as bits of an integer, the mask: state 0 is the lowest bit.

Common states and contained sets then take one operation. A family is a tuple
of different masks, in order, that holds the full set and all common states.
Moves are a tuple with one mask for each state: the states to which it is sent.
"""


def is_integer(thing):
    """Whether a value is an integer; a bool is none."""
    return isinstance(thing, int) and not isinstance(thing, bool)


def is_ascending(thing, many):
    """Whether a value is an ascending tuple of different states below many."""
    if not isinstance(thing, tuple):
        return False
    least = 0
    for state in thing:
        if not is_integer(state) or not least <= state < many:
            return False
        least = state + 1
    return True


def mask_of(states):
    """The mask of a set."""
    mask = 0
    for state in states:
        mask = mask | 1 << state
    return mask


def states_of(mask):
    """The set that a mask stands for."""
    return tuple([state for state in range(mask.bit_length()) if mask >> state & 1])


def full_mask(many):
    """The mask of the full set."""
    return (1 << many) - 1


def contains(large, small):
    """Whether all states of the small mask are in the large one."""
    return large & small == small


def rank(mask):
    """What masks are sorted by: their size, then their states as a tuple."""
    states = states_of(mask)
    return len(states), states


def in_order(masks):
    """The masks in the order of their sets."""
    return tuple(sorted(masks, key=rank))


def every_mask(many):
    """The masks of all sets of states below many, in order."""
    return in_order(list(range(1 << many)))


def grown(family, more):
    """The family that has more masks, too, and all that follow from them."""
    found = {old: True for old in family}
    for mask in more:
        if mask not in found:
            # The full set is among them, so this adds the mask itself as well.
            for other in list(found):
                found[mask & other] = True
    return in_order(list(found))


def gap_in(masks):
    """The first two masks without their common states, or None; the masks are in order."""
    known = set(masks)
    for at, first in enumerate(masks):
        for second in masks[at + 1:]:
            if first & second not in known:
                return first, second
    return None


def least_around(family, mask):
    """The smallest mask of the family that contains the mask."""
    # Common states are in the family, so the first one in order is in all others.
    around = [other for other in family if contains(other, mask)]
    return around[0]


def is_edge(family, mask):
    """Whether a mask is in the family, but not because of the larger ones there."""
    common = family[-1]
    for other in family:
        if other != mask and contains(other, mask):
            common = common & other
    return mask in family and common != mask


def image(moves, mask):
    """All states to which the states of a mask are sent."""
    found = 0
    for state, sent in enumerate(moves):
        if mask >> state & 1:
            found = found | sent
    return found


def inverse(moves, mask):
    """All states that are sent into a mask only."""
    found = 0
    for state, sent in enumerate(moves):
        if contains(mask, sent):
            found = found | 1 << state
    return found
