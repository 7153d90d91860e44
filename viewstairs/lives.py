"""LIVE SETs: which views have to be live, so that READS are WHOLE at all MOMENTs."""

from viewstairs.errors import BadPaper, TooGreat
from viewstairs.integers import are_integers
from viewstairs.moments import is_torn_by, whole_paper
from viewstairs.paths import leaf_spans, leaves
from viewstairs.tuples import is_tagged
from viewstairs.webs import is_name_in, live_web

_MOST_USED = 6


def used_views(web, reads):
    """The USED views, in the order of the VIEWS."""
    routes = leaves(web, reads)
    return tuple([name for name, _, _ in web[1] if any([name in path for path in routes])])


def live_paper(web, reads):
    """A certificate of the first LIVE SET, or that there is none."""
    used = _few_used_views(web, reads)
    rows = []
    for names in _all_sets(used):
        paper = whole_paper(live_web(web, names), reads)
        if paper[0] == "whole":
            return "live", names, tuple(rows[:len(_sets_below(used, len(names)))])
        rows.append(paper[1:])
    return "none", tuple(rows)


def check_live(web, reads, paper):
    """Whether a certificate that holds is one of a LIVE SET, not one that there is none."""
    used = _few_used_views(web, reads)
    if _is_live_form(paper):
        _, names, rows = paper
        _need_live_set(web, reads, used, names)
        _need_torn_rows(web, reads, _sets_below(used, len(names)), rows)
        return True
    if _is_none_form(paper):
        _need_torn_rows(web, reads, _all_sets(used), paper[1])
        return False
    raise BadPaper("form")


def _few_used_views(web, reads):
    """The USED views, if these are few enough to try all sets of them."""
    used = used_views(web, reads)
    if len(used) > _MOST_USED:
        raise TooGreat(_MOST_USED)
    return used


def _sets_of(names, many):
    """All sets of so many of the names, in order."""
    if many == 0:
        return [()]
    return [(name, *rest) for index, name in enumerate(names) for rest in _sets_of(names[index + 1:], many - 1)]


def _sets_below(names, bound):
    """All sets of fewer names than the bound, in order."""
    return [part for many in range(bound) for part in _sets_of(names, many)]


def _all_sets(names):
    """All sets of the names, in order."""
    return _sets_below(names, len(names) + 1)


def _is_live_form(thing):
    """Whether a thing is made like a certificate of a LIVE SET."""
    return is_tagged(thing, "live", 3) and isinstance(thing[1], tuple) and isinstance(thing[2], tuple)


def _is_none_form(thing):
    """Whether a thing is made like a certificate that there is no LIVE SET."""
    return is_tagged(thing, "none", 2) and isinstance(thing[1], tuple)


def _is_told_set(thing, used):
    """Whether a tuple is a set of USED views, in their order."""
    return all([is_name_in(name, used) for name in thing]) and list(thing) == [name for name in used if name in thing]


def _need_live_set(web, reads, used, names):
    """Refuse a tuple that is no LIVE SET."""
    if not _is_told_set(names, used) or whole_paper(live_web(web, names), reads)[0] != "whole":
        raise BadPaper("names")


def _need_torn_rows(web, reads, sets, rows):
    """Refuse rows that do not show for each of the sets, and for no more, that READS are TORN with it."""
    for index, names in enumerate(sets):
        if index >= len(rows) or not _is_torn_row(web, reads, names, rows[index]):
            raise BadPaper(index)
    if len(rows) > len(sets):
        raise BadPaper(len(sets))


def _is_torn_row(web, reads, names, row):
    """Whether a row tells a MOMENT and two leaves by which READS are TORN with these views LIVE."""
    if not are_integers(row, 3):
        return False
    moment, first, second = row
    return is_torn_by(leaf_spans(live_web(web, names), reads), moment, first, second)
