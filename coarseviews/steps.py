"""Steps and programs: to which states each state is sent."""

from coarseviews.errors import NoSet, NoStep, NoText, OtherStates
from coarseviews.masks import image, inverse, is_ascending, least_around, mask_of, states_of
from coarseviews.scales import Scale, check_scale, family_of, line_of, sets_by_line

MOST_PARTS = 6


class Run:
    """Runs over one scale, with what is known of the steps that were reached before.

    What a part does depends only on the mask with which it is reached. In a
    program nested deep it may be reached with the same mask in very many ways,
    so that each of them is looked at once.
    """

    def __init__(self, scale):
        self._family = family_of(scale)
        self._ends = {}
        self._losses = {}

    def rounded(self, mask):
        """The smallest allowed mask around a mask."""
        return least_around(self._family, mask)

    def end(self, step, mask):
        """The result of the coarse run of a step from a mask."""
        key = (step, mask)
        if key not in self._ends:
            self._ends[key] = step._end(self, mask)
        return self._ends[key]

    def loss(self, step, mask):
        """The first loss in the true run of a step from a mask, as a path and a mask, or None."""
        key = (step, mask)
        if key not in self._losses:
            self._losses[key] = step._loss(self, mask)
        return self._losses[key]


class Step:
    """A step sends each state to a set of states."""

    def __init__(self, *rows):
        if not is_rows(rows):
            raise NoStep("not 1 to 7 sets of states below their number")
        self._moves = tuple([mask_of(row) for row in rows])
        self._parts = ()

    @classmethod
    def read(cls, text):
        """The basic step that has this text."""
        if not isinstance(text, str):
            raise NoText("not a text")
        lines = text.split("\n")[:-1]
        if not 1 <= len(lines) <= Scale.MOST:
            raise NoText("not 1 to 7 lines")
        known = sets_by_line(len(lines))
        rows = [known.get(line[3:], ()) for line in lines]
        step = Step(*rows)
        # A step has one text: whatever is unknown or not in its place shows here.
        if step.text() != text:
            raise NoText("the lines are not those of a step")
        return step

    @property
    def many(self):
        """The number of states."""
        return len(self._moves)

    @property
    def rows(self):
        """For each state the set to which it is sent."""
        return tuple([states_of(sent) for sent in self._moves])

    @property
    def parts(self):
        """The steps of which a program is made, none for a basic step."""
        return self._parts

    def apply(self, states):
        """All states to which the states of a set are sent."""
        return states_of(image(self._moves, self._mask(states)))

    def back(self, states):
        """All states that are sent into a set only."""
        return states_of(inverse(self._moves, self._mask(states)))

    def coarse(self, scale, states):
        """The result of the coarse run, for which the scale rounds after every part."""
        check_scale(scale, self.many)
        mask = self._mask(states)
        return states_of(Run(scale).end(self, mask))

    def first_loss(self, scale, states):
        """The path to the first basic step of the true run that loses something, and its set, or None."""
        check_scale(scale, self.many)
        mask = self._mask(states)
        found = Run(scale).loss(self, mask)
        if found is None:
            return None
        path, reached = found
        return path, states_of(reached)

    def text(self):
        """A line for each state."""
        return "".join([f"{state}: {line_of(row)}\n" for state, row in enumerate(self.rows)])

    def _mask(self, states):
        if not is_ascending(states, self.many):
            raise NoSet("not an ascending tuple of different states")
        return mask_of(states)

    def _end(self, run, mask):
        """The result of the coarse run from a mask."""
        return run.rounded(image(self._moves, run.rounded(mask)))

    def _loss(self, run, mask):
        """The first loss in the true run from a mask, as a path and a mask, or None."""
        if run.end(self, mask) == run.rounded(image(self._moves, mask)):
            return None
        return (), mask


class Guard(Step):
    """Lets the states of a set be and sends the others to nothing."""

    def __init__(self, many, states):
        if not Scale.is_set(many, states):
            raise NoSet("not an ascending tuple of different states")
        rows = [(state,) if state in states else () for state in range(many)]
        super().__init__(*rows)


class Sequence(Step):
    """Performs its parts one after another."""

    def __init__(self, *parts):
        check_parts(parts)
        rows = [states_of(image_of_all(parts, 1 << state)) for state in range(parts[0].many)]
        super().__init__(*rows)
        self._parts = parts

    def _end(self, run, mask):
        for part in self._parts:
            mask = run.end(part, mask)
        return mask

    def _loss(self, run, mask):
        for at, part in enumerate(self._parts):
            found = run.loss(part, mask)
            if found is not None:
                return inside(at, found)
            mask = image(part._moves, mask)
        return None


class Choice(Step):
    """Performs one of its parts."""

    def __init__(self, *parts):
        check_parts(parts)
        rows = [states_of(image_of_any(parts, 1 << state)) for state in range(parts[0].many)]
        super().__init__(*rows)
        self._parts = parts

    def _end(self, run, mask):
        found = 0
        for part in self._parts:
            found = found | run.end(part, mask)
        return run.rounded(found)

    def _loss(self, run, mask):
        for at, part in enumerate(self._parts):
            found = run.loss(part, mask)
            if found is not None:
                return inside(at, found)
        return None


class Loop(Step):
    """Performs its part any number of times, also not at all."""

    def __init__(self, part):
        check_parts((part,))
        rows = [states_of(image_of_rounds(part, 1 << state)) for state in range(part.many)]
        super().__init__(*rows)
        self._parts = (part,)

    def _end(self, run, mask):
        part = self._parts[0]
        mask = run.rounded(mask)
        while True:
            more = run.rounded(mask | run.end(part, mask))
            if more == mask:
                return mask
            mask = more

    def _loss(self, run, mask):
        part = self._parts[0]
        completed = 0
        while True:
            found = run.loss(part, mask)
            if found is not None:
                return inside(completed, found)
            more = mask | image(part._moves, mask)
            if more == mask:
                return None
            mask = more
            completed = completed + 1


def moves_of(step):
    """For each state the mask of the states to which a step sends it."""
    return step._moves


def is_rows(rows):
    """Whether rows are what a step is made of."""
    many = len(rows)
    return 1 <= many <= Scale.MOST and all([is_ascending(row, many) for row in rows])


def check_parts(parts):
    """Raise NoStep or OtherStates for all but 1 to 6 steps of one number of states."""
    if not 1 <= len(parts) <= MOST_PARTS:
        raise NoStep("not 1 to 6 parts")
    for part in parts:
        if not isinstance(part, Step):
            raise NoStep("a part is not a step")
    for part in parts:
        if part.many != parts[0].many:
            raise OtherStates("the parts have different numbers of states")


def image_of_all(parts, mask):
    """The image of a mask under steps that are performed one after another."""
    for part in parts:
        mask = image(part._moves, mask)
    return mask


def image_of_any(parts, mask):
    """The image of a mask under steps of which one is performed."""
    found = 0
    for part in parts:
        found = found | image(part._moves, mask)
    return found


def image_of_rounds(part, mask):
    """The image of a mask under a step that is performed any number of times."""
    more = mask | image(part._moves, mask)
    while more != mask:
        mask = more
        more = mask | image(part._moves, mask)
    return mask


def inside(number, loss):
    """A loss in a part, as the program tells it that reaches the part by this number."""
    path, mask = loss
    return (number,) + path, mask
