"""What the document says of steps, losses and runs, written a second time and as plainly as possible.

Nothing of the package is used here. A program is told by a plan:
("step", row, ..), ("guard", many, states), ("sequence", plan, ..), ("choice", plan, ..) or ("loop", plan).
"""

from functools import lru_cache

import plain

rounded = lru_cache(maxsize=None)(plain.rounded)


class Numbers:
    """Numbers that look mixed and are the same each time."""

    def __init__(self, seed):
        self.state = seed

    def below(self, limit):
        self.state = (self.state * 6364136223846793005 + 1442695040888963407) % 2 ** 64
        return (self.state >> 33) % limit

    def pick(self, things):
        return things[self.below(len(things))]

    def some_set(self, many):
        return tuple(state for state in range(many) if self.below(2))

    def some_rows(self, many):
        """Rows, most of which are small."""
        return tuple(
            tuple(other for other in range(many) if not self.below(thin)) for thin in
            [self.pick((1, 2, 2, 3, 4, 9)) for _ in range(many)])

    def some_allowed(self, many):
        """All that some scale allows."""
        return plain.closed(many, [self.some_set(many) for _ in range(self.below(many + 3))])

    def some_plan(self, many, depth):
        kind = self.below(7) if depth else self.below(3)
        if kind == 0:
            return "guard", many, self.some_set(many)
        if kind <= 2:
            return ("step",) + self.some_rows(many)
        if kind == 3:
            return "loop", self.some_plan(many, depth - 1)
        word = "sequence" if kind <= 5 else "choice"
        return (word,) + tuple(self.some_plan(many, depth - 1) for _ in range(1 + self.below(3)))


def united(sets):
    return tuple(sorted({state for states in sets for state in states}))


def applied(rows, states):
    return united(rows[state] for state in states)


def back(rows, states):
    return tuple(state for state, row in enumerate(rows) if plain.within(row, states))


def many_of(plan):
    if plan[0] == "step":
        return len(plan) - 1
    return plan[1] if plan[0] == "guard" else many_of(plan[1])


def rows_of(plan):
    """The rows of a program, state by state."""
    word, *parts = plan
    if word == "step":
        return tuple(parts)
    if word == "guard":
        return tuple((state,) if state in parts[1] else () for state in range(parts[0]))
    states = [(state,) for state in range(many_of(plan))]
    rows = [rows_of(part) for part in parts]
    if word == "choice":
        return tuple(united(row[state] for row in rows) for state in range(many_of(plan)))
    if word == "sequence":
        for row in rows:
            states = [applied(row, reached) for reached in states]
        return tuple(states)
    # A state that is reached at all is reached in fewer rounds than there are states.
    for _ in range(many_of(plan)):
        states = [united([reached, applied(rows[0], reached)]) for reached in states]
    return tuple(states)


def coarse(allowed, plan, states):
    """The coarse run, as point 40 tells it."""
    word, *parts = plan
    if word == "sequence":
        for part in parts:
            states = coarse(allowed, part, states)
        return states
    if word == "choice":
        return rounded(allowed, united(coarse(allowed, part, states) for part in parts))
    if word == "loop":
        now = rounded(allowed, states)
        while True:
            after = rounded(allowed, united([now, coarse(allowed, parts[0], now)]))
            if after == now:
                return now
            now = after
    return rounded(allowed, applied(rows_of(plan), rounded(allowed, states)))


def reached(plan, states):
    """Each basic step that the true run reaches: its path, its rows and the set, in their order."""
    word, *parts = plan
    if word == "sequence":
        for at, part in enumerate(parts):
            for path, rows, there in reached(part, states):
                yield (at,) + path, rows, there
            states = applied(rows_of(part), states)
    elif word == "choice":
        for at, part in enumerate(parts):
            for path, rows, there in reached(part, states):
                yield (at,) + path, rows, there
    elif word == "loop":
        completed = 0
        while True:
            for path, rows, there in reached(parts[0], states):
                yield (completed,) + path, rows, there
            after = united([states, applied(rows_of(parts[0]), states)])
            if after == states:
                return
            states = after
            completed += 1
    else:
        yield (), rows_of(plan), states


def two_sides(allowed, rows, states):
    """What point 30 compares: with rounding first, and without."""
    first = rounded(allowed, applied(rows, rounded(allowed, states)))
    return first, rounded(allowed, applied(rows, states))


def first_loss(allowed, plan, states):
    for path, rows, there in reached(plan, states):
        first, second = two_sides(allowed, rows, there)
        if first != second:
            return path, there
    return None


def lost(allowed, rows, states):
    """The states that rounding first shows wrongly."""
    first, second = two_sides(allowed, rows, states)
    return tuple(state for state in first if state not in second)


def is_exact(allowed, rows):
    """Whether the two sides are the same for every set."""
    return not any(lost(allowed, rows, states) for states in plain.every_set(len(rows)))


def exact(allowed, rows):
    """The answer of point 31, by the words of point 30 with all sets."""
    for states in plain.every_set(len(rows)):
        wrong = lost(allowed, rows, states)
        if wrong:
            return "lost", states, wrong[0]
    return "exact", tuple((states, back(rows, states)) for states in plain.edges(allowed))


def refined(allowed, steps):
    """What must be allowed, too: all that back leads to, and all that follows, until nothing is new."""
    many = len(allowed[-1])
    while True:
        more = plain.closed(many, allowed + tuple(back(rows, states) for rows in steps for states in allowed))
        if more == allowed:
            return allowed
        allowed = more


def always_allowed(allowed, steps, states):
    """Whether back, again and again and by any of the steps, leads from a set to allowed sets only."""
    found = [states]
    for other in found:
        if other not in allowed:
            return False
        found += [back(rows, other) for rows in set(steps) if back(rows, other) not in found]
    return True


def coarsened(allowed, steps):
    return tuple(states for states in allowed if always_allowed(allowed, steps, states))


def family_key(allowed):
    """What the families of scales_between are sorted by."""
    return len(allowed), [(len(states), states) for states in allowed]


def between(low, high):
    """What all scales between two allow, by trying all choices of the sets between."""
    more = [states for states in high if states not in low]
    found = []
    for bits in range(2 ** len(more)):
        sets = low + tuple(states for at, states in enumerate(more) if bits >> at & 1)
        if plain.gap(sets) is None:
            found.append(plain.ordered(sets))
    return sorted(found, key=family_key)


def numbered(places, states):
    """A set when each state has the number that stands at its place."""
    return tuple(sorted(places[state] for state in states))


def numbered_rows(places, rows):
    found = [()] * len(rows)
    for state, row in enumerate(rows):
        found[places[state]] = numbered(places, row)
    return tuple(found)
