"""What the document says of sets and scales, written a second time and as plainly as possible.

Everything here works by trying all sets, and uses nothing of the package.
"""

from itertools import combinations

# None of these is an integer from 1 to 7.
NO_MANY = (0, 8, -1, 9999999999999, True, False, None, "3", (3,), [3], {3: 3}, "", ())

# None of these is a set of states, whatever the number of states is.
NEVER_SETS = (
    None, 0, 1, True, "", "01", "0", [], [0], {}, {0: 0}, (True,), (False,), (0, True), (False, True), (-1,),
    (0, 0), (1, 0), (0, 2, 1), (7,), (0, 7), ("0",), (None,), ((0,),), ((),), ([0],), (0, (1,)), (9999999999999,),
)


def every_set(many):
    """All sets of states, in order."""
    return [states for size in range(many + 1) for states in combinations(range(many), size)]


def common(first, second):
    return tuple(state for state in first if state in second)


def within(small, large):
    return all(state in large for state in small)


def ordered(sets):
    return tuple(sorted(sets, key=lambda states: (len(states), states)))


def closed(many, sets):
    """The given sets, the full set, and all that any of them have in common, in order."""
    found = {tuple(range(many))} | set(sets)
    while True:
        more = {common(first, second) for first in found for second in found}
        if more <= found:
            return ordered(found)
        found |= more


def rounded(allowed, states):
    """What all allowed sets around the states have in common."""
    around = [other for other in allowed if within(states, other)]
    return tuple(state for state in allowed[-1] if all(state in other for other in around))


def edges(allowed):
    """The allowed sets, not the full one, that larger ones around them do not give."""
    found = []
    for states in allowed[:-1]:
        larger = [other for other in allowed if within(states, other) and other != states]
        if states != tuple(state for state in allowed[-1] if all(state in other for other in larger)):
            found.append(states)
    return tuple(found)


def gap(sets):
    """The first two sets, in order, without their common states among the sets, or None."""
    for first, second in combinations(ordered(sets), 2):
        if common(first, second) not in sets:
            return first, second
    return None


def families(many):
    """What each of the scales of so many states allows (61 scales for 3 states)."""
    full = tuple(range(many))
    smaller = every_set(many)[:-1]
    for bits in range(2 ** len(smaller)):
        sets = [states for at, states in enumerate(smaller) if bits >> at & 1] + [full]
        if gap(sets) is None:
            yield ordered(sets)


def samples(many):
    """Some tuples of given sets, of many kinds; the same ones each time."""
    smaller = every_set(many)
    found = [(), tuple(smaller), tuple(smaller[:1]), tuple(smaller[-1:])]
    for step in (1, 2, 3, 5, 7, 11, 13):
        found.append(tuple(smaller[step::step + 3]))
        found.append(tuple(smaller[-step::-(step + 4)]))
        found.append(tuple(smaller[step * k * k % len(smaller)] for k in range(1, step + 2)))
    return found
