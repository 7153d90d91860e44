"""Single MOMENTs: whether all that is read at one MOMENT is as of one and the same."""

from math import lcm

from viewstairs.errors import BadPaper
from viewstairs.integers import are_integers, fraction, need_integer
from viewstairs.paths import leaf_spans, need_reads
from viewstairs.stairs import Stair, many_within, need_few, unrolled
from viewstairs.tuples import is_tagged


def whole_paper(web, reads):
    """A certificate that READS are WHOLE at all MOMENTs, or TORN at some."""
    spans = leaf_spans(web, reads)
    multiple = _common_multiple(spans)
    rows = _rows(spans, multiple)
    stretches = _torn_stretches(rows, multiple)
    if len(stretches) == 0:
        return "whole", Stair(multiple, tuple([(at, lower) for at, lower, _ in rows]))
    moment, _ = stretches[0]
    first, second = _torn_pair(spans, moment)
    return "torn", moment, first, second


def check_whole(web, reads, paper):
    """The word of a certificate, if it holds."""
    spans = leaf_spans(web, reads)
    if _is_whole_form(paper):
        _, stair = paper
        _need_within_all(spans, stair)
    elif _is_torn_form(paper):
        _, moment, first, second = paper
        if not is_torn_by(spans, moment, first, second):
            raise BadPaper("torn")
    else:
        raise BadPaper("form")
    return paper[0]


def torn_at(web, reads, moment):
    """The first pair of leaves by which READS are TORN at a MOMENT, or None."""
    need_reads(web, reads)
    need_integer(moment)
    return _torn_pair(leaf_spans(web, reads), moment)


def torn_share(web, reads):
    """The part of TORN MOMENTs among all."""
    stretches, multiple = _all_torn(web, reads)
    return fraction(sum([end - begin for begin, end in stretches]), multiple)


def longest_torn(web, reads):
    """The number of TORN MOMENTs in the longest row of such side by side, or None if all are TORN."""
    stretches, multiple = _all_torn(web, reads)
    if stretches == [(0, multiple)]:
        return None
    # A row at the end of one multiple goes on at the beginning of the next one.
    if len(stretches) > 1 and stretches[0][0] == 0 and stretches[-1][1] == multiple:
        stretches.append((stretches[-1][0], multiple + stretches[0][1]))
    return max([int(end - begin) for begin, end in stretches], default=0)


def next_torn(web, reads, moment):
    """The first TORN MOMENT from this one on, or None."""
    need_reads(web, reads)
    need_integer(moment)
    stretches, multiple = _all_torn(web, reads)
    if len(stretches) == 0:
        return None
    turns, rest = divmod(moment, multiple)
    for begin, end in stretches:
        if rest < end:
            return turns * multiple + (begin if begin > rest else rest)
    return (turns + 1) * multiple + stretches[0][0]


def is_torn_by(spans, moment, first, second):
    """Whether LOWER of the one leaf is greater than UPPER of the other one at a MOMENT; there may be no such leaves."""
    many = len(spans)
    if not 0 <= first < many or not 0 <= second < many:
        return False
    lower, _ = spans[first]
    other, width = spans[second]
    return lower(moment) > other(moment) + width


def _all_torn(web, reads):
    """The stretches of TORN MOMENTs, and the multiple by which they come again."""
    spans = leaf_spans(web, reads)
    multiple = _common_multiple(spans)
    return _torn_stretches(_rows(spans, multiple), multiple), multiple


def _common_multiple(spans):
    """The least common multiple of the PERIODs of all LOWERs, if these have few enough steps in it."""
    multiple = 1
    for lower, _ in spans:
        multiple = lcm(multiple, lower.period)
    need_few(sum([many_within(lower, multiple) for lower, _ in spans]))
    return multiple


def _rows(spans, multiple):
    """For each AT of a LOWER below the multiple: the AT, and the greatest LOWER and the least UPPER there."""
    changes = {}
    for index, (lower, _) in enumerate(spans):
        for at, value in unrolled(lower, multiple):
            changes.setdefault(at, []).append((index, value))
    lowers = [lower(-1) for lower, _ in spans]
    rows = []
    for at in sorted([int(moment) for moment in changes]):
        for index, value in changes[at]:
            lowers[index] = value
        greatest = max([int(value) for value in lowers])
        least = min([int(value + width) for value, (_, width) in zip(lowers, spans)])
        rows.append((at, greatest, least))
    return rows


def _torn_stretches(rows, multiple):
    """The stretches of TORN MOMENTs below the multiple: the first MOMENT of each, and the one behind its last."""
    marks = [(at, lower > upper) for at, lower, upper in rows]
    stretches = []
    begin = None
    # Ahead of the first row holds what holds at the last one.
    for at, torn in [(0, marks[-1][1]), *marks, (multiple, False)]:
        if torn and begin is None:
            begin = at
        elif not torn and begin is not None:
            stretches.append((begin, at))
            begin = None
    return [(begin, end) for begin, end in stretches if begin < end]


def _torn_pair(spans, moment):
    """The first pair (I, J) such that LOWER of the leaf I is greater than UPPER of the leaf J, or None."""
    lowers = [lower(moment) for lower, _ in spans]
    uppers = [value + width for value, (_, width) in zip(lowers, spans)]
    for first, lower in enumerate(lowers):
        for second, upper in enumerate(uppers):
            if lower > upper:
                return first, second
    return None


def _is_whole_form(thing):
    """Whether a thing is a pair of the word for WHOLE and a Stair."""
    return is_tagged(thing, "whole", 2) and isinstance(thing[1], Stair)


def _is_torn_form(thing):
    """Whether a thing is the word for TORN and three integers."""
    return is_tagged(thing, "torn", 4) and are_integers(thing[1:], 3)


def _need_within_all(spans, stair):
    """Refuse a Stair that is not within the SPANs of all leaves."""
    for lower, width in spans:
        if not lower <= stair or not stair <= lower + width:
            raise BadPaper("stair")
