"""A bench, on which curves and divisors lie under names."""

from twinsheets.base.numbers import MAX_INTEGER, check_count, is_integer, is_name, is_within
from twinsheets.curve.curves import check_curve
from twinsheets.divisor.divisors import divisor_of
from twinsheets.divisor.functions import check_function
from twinsheets.divisor.spaces import check_divisor
from twinsheets.errors import InvalidOperation, NothingToUndo, Refused, TooMany, UnknownName
from twinsheets.use.states import Moment, State, are_like, first_broken, news_of

MAX_CURVES = 6
MAX_DIVISORS = 12
MAX_PLEDGES = 10
_MAX_DEGREE = 20
_KINDS = ("one", "two", "none")


class Bench:
    """Curves and divisors under names; its changes keep its pledges."""

    def __init__(self, curves):
        check_curves(curves)
        self._moment = Moment(State({name: curve for name, curve in curves.items()}, {}, ()), (), ())

    @property
    def names(self):
        """The ascending tuple of all names."""
        state = self._moment.state
        return tuple(sorted(list(state.curves) + list(state.marked)))

    @property
    def lines(self):
        """The tuple of all lines."""
        return self._moment.told

    @property
    def pledges(self):
        """The tuple of the pledges, in the order of demands."""
        return self._moment.state.pledged

    @property
    def changes(self):
        """How many changes can be taken back."""
        return len(self._moment.past)

    def put(self, name, curve):
        """With a further curve."""
        state = self._moment.state
        check_new_name(state, name)
        check_curve(curve)
        if len(state.curves) == MAX_CURVES:
            raise TooMany(MAX_CURVES)
        return self._change(state.with_curve(name, curve))

    def mark(self, name, home, divisor):
        """With a further divisor."""
        state = self._moment.state
        check_new_name(state, name)
        check_known(state.curves, home)
        check_divisor(divisor)
        if divisor.curve != state.curves[home]:
            raise InvalidOperation("not a divisor of this curve")
        check_room(state)
        return self._change(state.with_divisor(name, home, divisor))

    def add(self, name, one, other):
        """With the sum of two divisors."""
        state = self._moment.state
        check_new_name(state, name)
        check_known(state.marked, one)
        check_known(state.marked, other)
        home, first = state.marked[one]
        further, second = state.marked[other]
        if home != further:
            raise InvalidOperation("divisors with unlike homes")
        check_room(state)
        return self._change(state.with_divisor(name, home, first + second))

    def carry(self, name, function):
        """With the divisor of a function added to a divisor."""
        state = self._moment.state
        check_known(state.marked, name)
        check_function(function)
        home, divisor = state.marked[name]
        if function.is_zero or function.curve != state.curves[home]:
            raise InvalidOperation("no function, or a function of another curve")
        return self._change(state.with_divisor(name, home, divisor + divisor_of(function)))

    def turn(self, name):
        """With the opposite of a divisor in its place."""
        state = self._moment.state
        check_known(state.marked, name)
        home, divisor = state.marked[name]
        return self._change(state.with_divisor(name, home, divisor.opposite()))

    def twist(self, name):
        """With the twist of a curve in its place."""
        state = self._moment.state
        check_known(state.curves, name)
        check_free(state, name)
        return self._change(state.with_curve(name, state.curves[name].twist()))

    def drop(self, name):
        """Without a curve or a divisor."""
        state = self._moment.state
        if not is_name(name) or not state.has_name(name):
            raise UnknownName(name)
        check_free(state, name)
        if name in state.curves and len(state.curves) == 1:
            raise InvalidOperation("the only curve")
        return self._change(state.without(name))

    def rename(self, names):
        """With other names."""
        check_names(names, self.names)
        return self._change(self._moment.state.renamed(names))

    def demand(self, pledge):
        """With a further pledge."""
        pledged = self._moment.state.pledged
        if not is_pledge(pledge) or pledge in pledged:
            raise InvalidOperation("not a pledge, or there already")
        if len(pledged) == MAX_PLEDGES:
            raise TooMany(MAX_PLEDGES)
        return self._change(self._moment.state.with_pledges(pledged + (pledge,)))

    def waive(self, pledge):
        """Without a pledge."""
        pledged = self._moment.state.pledged
        if not is_pledge(pledge) or pledge not in pledged:
            raise InvalidOperation("not a pledge of the bench")
        return self._change(self._moment.state.with_pledges(tuple([other for other in pledged if other != pledge])))

    def undo(self, *, many=1):
        """So many changes taken back."""
        check_count(many, 0, MAX_INTEGER)
        if many > len(self._moment.past):
            raise NothingToUndo(many)
        return self._move(-many)

    def redo(self, *, many=1):
        """So many changes done again."""
        check_count(many, 0, MAX_INTEGER)
        if many > len(self._moment.ahead):
            raise NothingToUndo(many)
        return self._move(many)

    def trial(self):
        """A block behind which the bench is as it was."""
        return Trial(self)

    def during(self, call):
        """What a call with the bench returns in such a block."""
        with self.trial() as same:
            return call(same)

    def twin(self):
        """An independent copy."""
        other = Bench(self._moment.state.curves)
        other._moment = self._moment
        return other

    def curve_named(self, name):
        """The curve with a name."""
        check_known(self._moment.state.curves, name)
        return self._moment.state.curves[name]

    def divisor_named(self, name):
        """The divisor with a name."""
        check_known(self._moment.state.marked, name)
        _, divisor = self._moment.state.marked[name]
        return divisor

    def home_of(self, name):
        """The name of the home of a divisor."""
        check_known(self._moment.state.marked, name)
        home, _ = self._moment.state.marked[name]
        return home

    def __contains__(self, value):
        if isinstance(value, str):
            return value in self._moment.told
        # The form is asked for first, since True is equal to 1.
        return is_pledge(value) and value in self._moment.state.pledged

    def __len__(self):
        return len(self._moment.state.pledged)

    def __iter__(self):
        return iter(self._moment.told)

    def __eq__(self, other):
        return isinstance(other, Bench) and are_like(self._moment.state, other._moment.state)

    def __str__(self):
        state = self._moment.state
        many = f"{len(state.curves)} curves, {len(state.marked)} divisors, {len(state.pledged)} pledges"
        return f"bench of {many}"

    def _change(self, state):
        """The news of a further state, unless a pledge would not hold."""
        now = self._moment
        broken = first_broken(now.state, state)
        if broken is not None:
            raise Refused(broken)
        self._moment = Moment(state, now.past + (now.state,), ())
        return news_of(now, state)

    def _move(self, many):
        """The news of so many changes done again, or taken back below 0."""
        now = self._moment
        states = now.past + (now.state,) + now.ahead
        at = len(now.past) + many
        self._moment = Moment(states[at], states[:at], states[at + 1:])
        return news_of(now, states[at])


class Trial:
    """A block with a bench, behind which it is as it was."""

    def __init__(self, bench):
        self.bench = bench
        self.moment = None

    def __enter__(self):
        self.moment = self.bench._moment
        return self.bench

    def __exit__(self, kind, value, trace):
        bench = self.bench
        bench._moment = self.moment


def is_pledge(value):
    """Whether the value is a pledge, whatever the bench."""
    if not isinstance(value, tuple) or not 3 <= len(value) <= 4 or not is_name(value[0]) or not is_name(value[1]):
        return False
    word, told = value[0], value[2]
    if len(value) == 4:
        return word == "points" and is_within(told, 1, _MAX_DEGREE) and is_integer(value[3])
    if word == "kind":
        return is_name(told) and told in _KINDS
    if word == "alike":
        return is_name(told)
    return word in ("classes", "degree", "size") and is_integer(told)


def check_curves(value):
    """Refuse what is no dict of one to six names, and values in it that are no curves."""
    if not isinstance(value, dict) or not 1 <= len(value) <= MAX_CURVES or not all([is_name(name) for name in value]):
        raise InvalidOperation("not a dict of one to six names")
    for curve in value.values():
        check_curve(curve)


def check_new_name(state, name):
    """Refuse what is no name, and a name that something has."""
    if not is_name(name) or state.has_name(name):
        raise InvalidOperation("not a new name")


def check_known(table, name):
    """Refuse what is no name of a table."""
    if not is_name(name) or name not in table:
        raise UnknownName(name)


def check_room(state):
    """Refuse a further divisor beside twelve."""
    if len(state.marked) == MAX_DIVISORS:
        raise TooMany(MAX_DIVISORS)


def check_free(state, name):
    """Refuse a curve on which a divisor lies."""
    if state.is_home(name):
        raise InvalidOperation("a divisor lies on this curve")


def check_names(value, names):
    """Refuse what is no dict from just these names to different ones."""
    if not isinstance(value, dict) or len(value) != len(names) or not all([name in value for name in names]):
        raise InvalidOperation("not a dict from the names")
    told = list(value.values())
    if not all([is_name(name) for name in told]) or len({name: True for name in told}) != len(told):
        raise InvalidOperation("not different names")
