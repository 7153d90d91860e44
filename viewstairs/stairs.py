"""STAIRs: functions from MOMENTs to MOMENTs that never fall and climb as fast as time."""

from math import lcm

from viewstairs.errors import BadStair, OutOfPlace, TooGreat
from viewstairs.integers import are_integers, decimal, is_integer, is_within, need_integer, need_within
from viewstairs.tuples import is_tuple

MOST_STEPS = 4096
MOST_TURNS = 10 ** 18
MOST_BEAT = 1000000

# The parts of a step.
_AT = 0
_VALUE = 1


def is_beat(thing):
    """Whether a thing is a BEAT."""
    if not is_tuple(thing, 3, 3):
        return False
    period, offset, takes = thing
    return is_within(period, 1, MOST_BEAT) and is_within(offset, 0, period - 1) and is_within(takes, 0, MOST_BEAT)


def need_stair(thing):
    """Refuse what is no Stair."""
    if not isinstance(thing, Stair):
        raise OutOfPlace("a Stair is asked for")


def _wrong_step(period, steps):
    """The index of the first step that cannot stand behind those ahead of it, or None."""
    for index, step in enumerate(steps):
        if not are_integers(step, 2):
            return index
        at, value = step
        if at < 0 or at >= period:
            return index
        if index > 0 and (at <= steps[index - 1][_AT] or value < steps[index - 1][_VALUE]):
            return index
    return None


def _need_steps(period, steps):
    """Refuse what tells no STAIR."""
    if not is_integer(period) or period < 1:
        raise BadStair(("period",))
    if not is_tuple(steps, 1, MOST_STEPS):
        raise BadStair(("steps",))
    index = _wrong_step(period, steps)
    if index is not None:
        raise BadStair(("step", index))
    if steps[-1][_VALUE] > steps[0][_VALUE] + period:
        raise BadStair(("rise",))


def _rising(period, steps):
    """The steps that do not have the VALUE of the step ahead of them."""
    value_ahead = steps[-1][_VALUE] - period
    kept = []
    for at, value in steps:
        if value != value_ahead:
            kept.append((at, value))
        value_ahead = value
    return kept


def _gaps(period, steps):
    """For each step how far it is from the step ahead of it, in AT and in VALUE."""
    at_ahead, value_ahead = steps[-1][_AT] - period, steps[-1][_VALUE] - period
    gaps = []
    for at, value in steps:
        gaps.append((at - at_ahead, value - value_ahead))
        at_ahead, value_ahead = at, value
    return gaps


def _plain(period, steps):
    """The PERIOD and the STEPS of the PLAIN form."""
    kept = _rising(period, steps)
    gaps = _gaps(period, kept)
    # A lesser PERIOD shows in gaps that repeat. Then both sums of a part's gaps are that PERIOD.
    many = 1
    while len(kept) % many != 0 or gaps[many:] != gaps[:len(kept) - many]:
        many = many + 1
    return period // (len(kept) // many), tuple(kept[:many])


def _turned(period, rows):
    """STEPS from 0 on, of rising rows (AT, VALUE) that fill one PERIOD from anywhere on."""
    border = (rows[0][_AT] // period + 1) * period
    behind = [(at - border, value - border) for at, value in rows if at >= border]
    ahead = [(at - border + period, value - border + period) for at, value in rows if at < border]
    return (*behind, *ahead)


def _many_below(steps, part, bound):
    """The number of the steps whose AT or VALUE, as the part says, is less than the bound."""
    low, high = 0, len(steps)
    while low < high:
        middle = (low + high) // 2
        if steps[middle][part] < bound:
            low = middle + 1
        else:
            high = middle
    return low


def _step(stair, index):
    """The step of any index: the steps go on behind the last one and ahead of the first one."""
    turns, rest = divmod(index, len(stair.steps))
    at, value = stair.steps[rest]
    return at + turns * stair.period, value + turns * stair.period


def _index_at(stair, moment):
    """The index of the last step whose AT is not greater than the MOMENT."""
    turns, rest = divmod(moment, stair.period)
    return turns * len(stair.steps) + _many_below(stair.steps, _AT, rest + 1) - 1


def _index_reaching(stair, value):
    """The index of the first step whose VALUE is not less than this one."""
    lowest = stair.steps[0][_VALUE]
    turns, rest = divmod(value - lowest, stair.period)
    return turns * len(stair.steps) + _many_below(stair.steps, _VALUE, lowest + rest)


def _value_at(stair, moment):
    """The MOMENT that the STAIR has at this one."""
    return _step(stair, _index_at(stair, moment))[_VALUE]


def _least_reaching(stair, value):
    """The least MOMENT at which the STAIR is not less than this value."""
    return _step(stair, _index_reaching(stair, value))[_AT]


def many_within(stair, span):
    """The number of steps in a multiple of the PERIOD."""
    return len(stair.steps) * (span // stair.period)


def need_few(many):
    """Refuse too many steps."""
    if many > MOST_STEPS:
        raise TooGreat(MOST_STEPS)


def unrolled(stair, span):
    """The steps with an AT from 0 on and below the span, a multiple of the PERIOD."""
    period, steps = stair.period, stair.steps
    return [(at + turn * period, value + turn * period) for turn in range(span // period) for at, value in steps]


def _common_rows(one, other):
    """For each AT of either STAIR in their common PERIOD: the AT, and what both STAIRs have there."""
    span = lcm(one.period, other.period)
    need_few(many_within(one, span) + many_within(other, span))
    # A step at the end of each list keeps both of them readable until all steps are met.
    first, second = [*unrolled(one, span), (span, 0)], [*unrolled(other, span), (span, 0)]
    here, there = first[-2][_VALUE] - span, second[-2][_VALUE] - span
    left, right = 0, 0
    rows = []
    while first[left][_AT] < span or second[right][_AT] < span:
        at = first[left][_AT] if first[left][_AT] < second[right][_AT] else second[right][_AT]
        if first[left][_AT] == at:
            here = first[left][_VALUE]
            left = left + 1
        if second[right][_AT] == at:
            there = second[right][_VALUE]
            right = right + 1
        rows.append((at, here, there))
    return rows


def _is_below(one, other):
    """Whether the one STAIR is nowhere greater than the other one."""
    return all([here <= there for _, here, there in _common_rows(one, other)])


def _leap(jumps, index):
    """The index to which an index jumps; the jumps go on behind the last one and ahead of the first one."""
    turns, rest = divmod(index, len(jumps))
    return jumps[rest] + turns * len(jumps)


def _repeated(stair, times):
    """The STAIR applied so many times, from 1 on."""
    # A step of the result is at a step of the STAIR. So it is enough to know which step a step leads to.
    jumps = [_index_at(stair, value) for _, value in stair.steps]
    reached = list(range(len(jumps)))
    rest = times - 1
    while rest > 0:
        if rest & 1:
            reached = [_leap(jumps, index) for index in reached]
        jumps = [_leap(jumps, index) for index in jumps]
        rest = rest >> 1
    ends = [_step(stair, index)[_VALUE] for index in reached]
    return Stair(stair.period, tuple([(stair.steps[index][_AT], end) for index, end in enumerate(ends)]))


def _step_lines(steps):
    """A line for each step."""
    return "\n".join([f"{decimal(at)} {decimal(value)}" for at, value in steps])


def _step_pairs(steps):
    """The steps as Python writes a tuple of pairs."""
    pairs = [f"({decimal(at)}, {decimal(value)})" for at, value in steps]
    if len(pairs) == 1:
        return f"({pairs[0]},)"
    inside = ", ".join(pairs)
    return f"({inside})"


class Stair:
    """A STAIR, kept in its PLAIN form."""

    def __init__(self, period, steps):
        _need_steps(period, steps)
        self._period, self._steps = _plain(period, steps)

    @classmethod
    def beat(cls, beat):
        """The STAIR of a BEAT."""
        if not is_beat(beat):
            raise OutOfPlace("a BEAT is asked for")
        period, offset, takes = beat
        at = (offset + takes) % period
        return cls(period, ((at, at - takes),))

    @staticmethod
    def shift(number):
        """The STAIR of t + number."""
        need_integer(number)
        return Stair(1, ((0, number),))

    @property
    def period(self):
        """The PERIOD of the PLAIN form."""
        return self._period

    @property
    def steps(self):
        """The STEPS of the PLAIN form."""
        return self._steps

    def __call__(self, moment):
        need_integer(moment)
        return _value_at(self, moment)

    def last(self, moment):
        """The greatest MOMENT at which this STAIR is not greater than the given one."""
        need_integer(moment)
        return _least_reaching(self, moment + 1) - 1

    def again(self, times):
        """This STAIR applied so many times."""
        need_within(times, 0, MOST_TURNS)
        if times == 0:
            return Stair.shift(0)
        return _repeated(self, times)

    def __mul__(self, other):
        need_stair(other)
        span = lcm(self.period, other.period)
        need_few(many_within(other, span))
        return Stair(span, tuple([(at, _value_at(self, value)) for at, value in unrolled(other, span)]))

    def __and__(self, other):
        need_stair(other)
        rows = _common_rows(self, other)
        steps = [(at, here if here < there else there) for at, here, there in rows]
        return Stair(lcm(self.period, other.period), tuple(steps))

    def __or__(self, other):
        need_stair(other)
        rows = _common_rows(self, other)
        steps = [(at, here if here > there else there) for at, here, there in rows]
        return Stair(lcm(self.period, other.period), tuple(steps))

    def __add__(self, other):
        need_integer(other)
        return Stair(self.period, tuple([(at, value + other) for at, value in self.steps]))

    def __radd__(self, other):
        need_integer(other)
        return Stair(self.period, tuple([(at, other + value) for at, value in self.steps]))

    def __sub__(self, other):
        need_integer(other)
        return Stair(self.period, tuple([(at, value - other) for at, value in self.steps]))

    def __neg__(self):
        # The MOMENTs of a step, turned round, end where those of the step behind it begin.
        many = len(self.steps)
        rows = [(1 - _step(self, index + 1)[_AT], -_step(self, index)[_VALUE]) for index in range(many - 1, -1, -1)]
        return Stair(self.period, _turned(self.period, rows))

    def __invert__(self):
        # A VALUE that is greater than that of one step is reached first at the step behind it.
        many = len(self.steps)
        rows = [(_step(self, index - 1)[_VALUE] + 1, _step(self, index)[_AT]) for index in range(many)]
        return Stair(self.period, _turned(self.period, rows))

    def __le__(self, other):
        need_stair(other)
        return _is_below(self, other)

    def __ge__(self, other):
        need_stair(other)
        return _is_below(other, self)

    def __lt__(self, other):
        need_stair(other)
        return _is_below(self, other) and not self == other

    def __gt__(self, other):
        need_stair(other)
        return _is_below(other, self) and not self == other

    def __eq__(self, other):
        return isinstance(other, Stair) and self._period == other._period and self._steps == other._steps

    def __contains__(self, moment):
        return is_integer(moment) and _step(self, _index_reaching(self, moment))[_VALUE] == moment

    def __len__(self):
        return len(self._steps)

    def __getitem__(self, index):
        need_integer(index)
        return _step(self, index)

    def __iter__(self):
        raise TypeError("a Stair is not iterated over: its steps have no end")

    def __str__(self):
        return f"period {decimal(self._period)}\n{_step_lines(self._steps)}"

    def __repr__(self):
        return f"Stair({decimal(self._period)}, {_step_pairs(self._steps)})"


def climbs(stair, begin, many):
    """So many steps: the first one whose AT is not less than the begin, and those behind it."""
    first = _index_at(stair, begin - 1) + 1
    for index in range(many):
        yield _step(stair, first + index)


def first_unlike(one, other):
    """The first MOMENT from 0 on at which two STAIRs are unlike, or None."""
    need_stair(one)
    need_stair(other)
    if one == other:
        return None
    rows = _common_rows(one, other)
    # What the STAIRs have at 0 may be of steps below 0, so no row may stand there.
    if _value_at(one, 0) != _value_at(other, 0):
        return 0
    unlike = [at for at, here, there in rows if here != there]
    return unlike[0]
