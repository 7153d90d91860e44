"""Drifts: how far a STAIR leads when it is applied again and again, and the STAIRs of RINGs."""

from viewstairs.errors import BadPaper, OutOfPlace
from viewstairs.integers import are_integers, need_within
from viewstairs.modes import as_read, is_mode
from viewstairs.stairs import MOST_TURNS, Stair, is_beat, need_stair
from viewstairs.tuples import is_tuple

_MOST_CARRIERS = 8
_MOST_MOMENT = 10 ** 30


def drift(stair):
    """The DRIFT of a STAIR, as a pair (G, N)."""
    _, turns, gain = drift_paper(stair)
    return gain, turns


def drift_paper(stair):
    """A certificate (t, N, G) of the DRIFT."""
    need_stair(stair)
    begin = _walked(stair, 0, len(stair))
    moment, turns = stair(begin), 1
    while (moment - begin) % stair.period != 0:
        moment, turns = stair(moment), turns + 1
    return begin, turns, moment - begin


def check_drift(stair, paper):
    """The DRIFT, if the certificate holds."""
    need_stair(stair)
    if not are_integers(paper, 3):
        raise BadPaper("form")
    moment, turns, gain = paper
    if not 1 <= turns <= MOST_TURNS:
        raise BadPaper("turns")
    repeated = stair.again(turns)
    if gain % stair.period != 0 or repeated(moment) != moment + gain:
        raise BadPaper("gain")
    return drift(stair)


def turns_within(stair, moment, floor):
    """How many times a STAIR that drifts down may be applied to a MOMENT without falling below the floor."""
    gain, turns = drift(stair)
    if gain >= 0:
        raise OutOfPlace("a STAIR with a DRIFT below 0 is asked for")
    need_within(moment, -_MOST_MOMENT, _MOST_MOMENT)
    need_within(floor, -_MOST_MOMENT, _MOST_MOMENT)
    if floor > moment:
        raise OutOfPlace("a floor that is not above the MOMENT is asked for")
    many = _turns_until(stair, moment, floor, len(stair))
    if many < len(stair):
        return many
    # By now the MOMENTs repeat with the DRIFT, so all rounds above the floor are gone at once.
    here = _walked(stair, moment, many)
    rounds = (here - floor) // -gain
    return many + rounds * turns + _turns_until(stair, here + rounds * gain, floor, turns)


def ring_stair(ring):
    """The STAIR of a RING."""
    if not _is_ring(ring):
        raise OutOfPlace("a RING is asked for")
    beat, mode = ring[0]
    told = as_read(Stair.beat(beat), mode)
    for beat, mode in ring[1:]:
        told = as_read(Stair.beat(beat) * told, mode)
    return told


def _walked(stair, moment, many):
    """The MOMENT to which so many turns lead.

    As many turns as there are steps lead to a MOMENT that comes again, moved by the DRIFT: each turn ends at the
    VALUE of a step.
    """
    for _ in range(many):
        moment = stair(moment)
    return moment


def _turns_until(stair, moment, floor, most):
    """How many turns, up to the most, do not fall below the floor."""
    turns = 0
    moment = stair(moment)
    while turns < most and moment >= floor:
        turns = turns + 1
        moment = stair(moment)
    return turns


def _is_carrier(thing):
    """Whether a thing is a pair of a BEAT and a MODE."""
    return is_tuple(thing, 2, 2) and is_beat(thing[0]) and is_mode(thing[1])


def _is_ring(thing):
    """Whether a thing is a RING."""
    return is_tuple(thing, 1, _MOST_CARRIERS) and all([_is_carrier(part) for part in thing])
