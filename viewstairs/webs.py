"""WEBs: tables, the views that are made from them, and the PATHs between them."""

from viewstairs.errors import BadWeb, Missing, OutOfPlace, TooGreat
from viewstairs.modes import is_mode
from viewstairs.stairs import is_beat
from viewstairs.tuples import is_tuple

_MOST_TABLES = 6
_MOST_VIEWS = 8
_MOST_SOURCES = 4
_MOST_LETTERS = 8
_MOST_PATHS = 200

_LIVE_BEAT = (1, 0, 0)


def need_web(thing):
    """The thing itself, if it is a WEB."""
    place = _wrong_place(thing)
    if place is not None:
        raise BadWeb(place)
    return thing


def is_web(thing):
    """Whether a thing is a WEB."""
    return _wrong_place(thing) is None


def names_of(web):
    """The NAMEs of the tables and then of the views."""
    tables, views = need_web(web)
    return tuple([part[0] for part in (*tables, *views)])


def paths(web, name):
    """The PATHs of a NAME, in order."""
    if not is_name_in(name, names_of(web)):
        raise Missing(name)
    found = paths_of(web, name)
    need_few_paths(found)
    return tuple(found)


def live_web(web, names):
    """The WEB with these views LIVE."""
    tables, views = need_web(web)
    if not _are_views(web, names):
        raise OutOfPlace("a tuple of different NAMEs of views is asked for")
    changed = [(name, _LIVE_BEAT if name in names else beat, sources) for name, beat, sources in views]
    return tables, tuple(changed)


def loads_of(web):
    """The LOADs of the tables, by their NAMEs."""
    return {name: load for name, load in web[0]}


def beats_of(web):
    """The BEATs of the views, by their NAMEs."""
    return {name: beat for name, beat, _ in web[1]}


def modes_of(web):
    """The MODEs, each by a pair of NAMEs: of the view that reads, and of what it reads."""
    return {(name, source): mode for name, _, sources in web[1] for source, mode in sources}


def paths_of(web, name):
    """The PATHs of a NAME, in order, however many these are."""
    read = {view: sources for view, _, sources in web[1]}
    if name not in read:
        return [(name,)]
    return [(name, *path) for source, _ in read[name] for path in paths_of(web, source)]


def need_few_paths(found):
    """Refuse too many PATHs."""
    if len(found) > _MOST_PATHS:
        raise TooGreat(_MOST_PATHS)


def is_name(thing):
    """Whether a thing of any kind is a NAME."""
    return isinstance(thing, str) and 1 <= len(thing) <= _MOST_LETTERS and all(["a" <= part <= "z" for part in thing])


def is_name_in(thing, names):
    """Whether a thing of any kind is one of some NAMEs."""
    return isinstance(thing, str) and thing in names


def _wrong_place(thing):
    """The first place at which a thing is no WEB, or None."""
    if not _has_form(thing):
        return ("form",)
    tables, views = thing
    names = []
    for index, table in enumerate(tables):
        if not _is_table(table, names):
            return "table", index
        names.append(table[0])
    for index, view in enumerate(views):
        if not _is_view(view, names):
            return "view", index
        names.append(view[0])
    return None


def _has_form(thing):
    """Whether a thing is a pair of two tuples that are as long as those of a WEB."""
    return is_tuple(thing, 2, 2) and is_tuple(thing[0], 1, _MOST_TABLES) and is_tuple(thing[1], 0, _MOST_VIEWS)


def _is_table(thing, names):
    """Whether a thing is a table behind those with these NAMEs."""
    return is_tuple(thing, 2, 2) and _is_new_name(thing[0], names) and _is_load(thing[1])


def _is_view(thing, names):
    """Whether a thing is a view behind the tables and views with these NAMEs."""
    if not is_tuple(thing, 3, 3):
        return False
    name, beat, sources = thing
    return _is_new_name(name, names) and is_beat(beat) and _are_sources(sources, names)


def _is_new_name(thing, names):
    """Whether a thing is a NAME, and none of these."""
    return is_name(thing) and thing not in names


def _is_load(thing):
    """Whether a thing is a LOAD."""
    return thing is None or isinstance(thing, tuple) and is_beat((*thing, 0))


def _are_sources(thing, names):
    """Whether a thing is the SOURCES of a view behind the tables and views with these NAMEs."""
    if not is_tuple(thing, 1, _MOST_SOURCES) or not all([_is_source(part, names) for part in thing]):
        return False
    return len({name for name, _ in thing}) == len(thing)


def _is_source(thing, names):
    """Whether a thing is a pair of one of these NAMEs and a MODE."""
    return is_tuple(thing, 2, 2) and is_name_in(thing[0], names) and is_mode(thing[1])


def _are_views(web, thing):
    """Whether a thing is a tuple of different NAMEs of views."""
    beats = beats_of(web)
    if not is_tuple(thing, 0, len(beats)) or not all([is_name_in(name, beats) for name in thing]):
        return False
    return len(set(thing)) == len(thing)
