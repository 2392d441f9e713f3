"""What lies on a bench at one time, and the times behind it and ahead; none of this changes."""

from twinsheets.divisor.spaces import are_alike, size_of
from twinsheets.zeta.counts import class_number, is_counted, points_over


class State:
    """Curves by their names, pairs of a home and a divisor by theirs, and the pledges in the order of demands."""

    def __init__(self, curves, marked, pledged):
        self.curves = curves
        self.marked = marked
        self.pledged = pledged
        self.told = told_lines(curves, marked)

    def has_name(self, name):
        """Whether a curve or a divisor has this name."""
        return name in self.curves or name in self.marked

    def with_curve(self, name, curve):
        """The state in which this name stands for a curve."""
        return State(with_entry(self.curves, name, curve), self.marked, self.pledged)

    def with_divisor(self, name, home, divisor):
        """The state in which this name stands for a divisor."""
        return State(self.curves, with_entry(self.marked, name, (home, divisor)), self.pledged)

    def without(self, name):
        """The state without a name."""
        curves = {other: curve for other, curve in self.curves.items() if other != name}
        marked = {other: pair for other, pair in self.marked.items() if other != name}
        return State(curves, marked, self.pledged)

    def renamed(self, names):
        """The state with other names."""
        curves = {names[name]: curve for name, curve in self.curves.items()}
        marked = {names[name]: (names[home], divisor) for name, (home, divisor) in self.marked.items()}
        return State(curves, marked, self.pledged)

    def with_pledges(self, pledged):
        """The state with other pledges."""
        return State(self.curves, self.marked, pledged)

    def is_home(self, name):
        """Whether a divisor lies on the curve with this name."""
        return name in [home for home, _ in self.marked.values()]


class Moment:
    """A state, with the tuples of the states behind it and ahead of it."""

    def __init__(self, state, past, ahead):
        self.state = state
        self.past = past
        self.ahead = ahead
        self.told = state.told


def with_entry(table, name, value):
    """A dict in which a name stands for a value."""
    found = {other: held for other, held in table.items()}
    found[name] = value
    return found


def are_like(one, other):
    """Whether names, curves, homes, divisors and pledges of two states are equal."""
    return one.curves == other.curves and one.marked == other.marked and one.pledged == other.pledged


def told_lines(curves, marked):
    """The tuple of the lines for curves and divisors."""
    first = [f"curve {name} {curves[name]}" for name in sorted(curves)]
    second = []
    for name in sorted(marked):
        home, divisor = marked[name]
        second.append(f"divisor {name} on {home}: {divisor}")
    return tuple(first + second)


def news_of(before, after):
    """The ascending lines that are there no more, and those that were not there before."""
    gone = sorted([line for line in before.told if line not in after.told])
    come = sorted([line for line in after.told if line not in before.told])
    return tuple(gone), tuple(come)


def first_broken(before, after):
    """The first pledge that would not hold behind a change, or None; all of them have held before."""
    for pledge in after.pledged:
        if (pledge not in before.pledged or is_touched(before, after, pledge)) and not does_hold(after, pledge):
            return pledge
    return None


def is_touched(before, after, pledge):
    """Whether what a pledge names has changed."""
    names = [pledge[1], pledge[2]] if pledge[0] == "alike" else [pledge[1]]
    for name in names:
        if before.curves.get(name) != after.curves.get(name) or before.marked.get(name) != after.marked.get(name):
            return True
    return False


def does_hold(state, pledge):
    """Whether a pledge holds."""
    word, name, told = pledge[0], pledge[1], pledge[2]
    if word in ("degree", "size", "alike"):
        return name in state.marked and does_divisor_hold(state, word, name, told)
    if name not in state.curves:
        return False
    curve = state.curves[name]
    if word == "kind":
        return curve.kind == told
    if not is_counted(curve):
        return False
    return class_number(curve) == told if word == "classes" else points_over(curve, told) == pledge[3]


def does_divisor_hold(state, word, name, told):
    """Whether a pledge about a divisor holds."""
    home, divisor = state.marked[name]
    if word == "degree":
        return divisor.degree == told
    if word == "size":
        return size_of(divisor) == told
    if told not in state.marked:
        return False
    further, other = state.marked[told]
    return home == further and are_alike(divisor, other)
