"""What DOC.md defines, computed moment by moment in the plainest way, to hold the program against."""

import random

from viewstairs.stairs import Stair


def told(period, steps):
    """The function of [11]."""
    def value(moment):
        turns, rest = divmod(moment, period)
        found = steps[-1][1] - period
        for at, told_value in steps:
            if at <= rest:
                found = told_value
        return found + turns * period
    return value


def plain(period, steps):
    """The PLAIN form of [12], by trying each PERIOD."""
    value = told(period, steps)
    least = 1
    while any(value(t + least) != value(t) + least for t in range(period)):
        least += 1
    return least, tuple((t, value(t)) for t in range(least) if value(t) != value(t - 1))


def reach(period, steps):
    """How far a value is from its moment at most."""
    value = told(period, steps)
    return max(abs(value(t) - t) for t in range(period)) + 1


def least_reaching(stair, bound, far):
    """The least t with stair(t) >= bound, by going up from below."""
    moment = bound - far
    assert stair(moment) < bound
    while stair(moment) < bound:
        moment += 1
    return moment


def greatest_within(stair, bound, far):
    """The greatest t with stair(t) <= bound, by going down from above."""
    moment = bound + far
    assert stair(moment) > bound
    while stair(moment) > bound:
        moment -= 1
    return moment


def tellings(most_period=3, low=-2, high=2):
    """All STAIRs of the small PERIODs with f(0) within bounds, a step at each MOMENT."""
    for period in range(1, most_period + 1):
        for first in range(low, high + 1):
            rows = [(first,)]
            for _ in range(1, period):
                rows = [row + (value,) for row in rows for value in range(row[-1], first + period + 1)]
            for row in rows:
                yield period, tuple(enumerate(row))


def chance_telling(chance, most_period=12, far=15):
    """Some PERIOD and STEPS."""
    period = chance.randint(1, most_period)
    many = chance.randint(1, period)
    ats = sorted(chance.sample(range(period), many))
    first = chance.randint(-far, far)
    values = sorted(first + chance.randint(0, period) for _ in range(many))
    values = [value - values[0] + first for value in values]
    return period, tuple(zip(ats, values))


def chance_tellings(seed, many, most_period=12):
    """So many PERIODs and STEPS, the same ones for the same seed."""
    chance = random.Random(seed)
    return [chance_telling(chance, most_period) for _ in range(many)]


def crowd(many, period, seed=1):
    """A STAIR with so many steps in its PLAIN form and this PERIOD."""
    chance = random.Random(seed)
    while True:
        ats = sorted(chance.sample(range(period), many))
        stair = Stair(period, tuple((at, place - 7) for place, at in enumerate(ats)))
        if stair.period == period and len(stair) == many:
            return stair


class Hostile:
    """A thing that cannot be compared, measured, hashed or shown."""

    def __eq__(self, other):
        raise RuntimeError("compared")

    def __len__(self):
        raise RuntimeError("measured")

    def __hash__(self):
        raise RuntimeError("hashed")

    def __repr__(self):
        raise RuntimeError("shown")

    def __bool__(self):
        raise RuntimeError("tested")


def no_integers():
    """Things of many kinds, none an integer."""
    return [True, False, None, "", "3", "with", b"3", (), (3,), (1, 2), (1, 2, 3), [], [3], {}, {3: 3}, {3}, object(),
            int, len, 3j, range(3), Hostile(), Stair(1, ((0, 3),))]


def no_stairs():
    """Things of many kinds, none a Stair."""
    return [thing for thing in no_integers() if not isinstance(thing, Stair)] + [0, 3, -1, Stair, (5, ((3, 2),))]
