"""PATHs of WEBs: of which MOMENTs the tables are that are read by them."""

from viewstairs.errors import BadReads, OutOfPlace
from viewstairs.integers import need_integer
from viewstairs.modes import as_read
from viewstairs.stairs import Stair
from viewstairs.tuples import is_tuple
from viewstairs.webs import beats_of, is_name_in, loads_of, modes_of, names_of, need_few_paths, need_web, paths_of

_MOST_READS = 6


def path_stair(web, path):
    """The STAIR of a PATH."""
    _need_path(web, path)
    return path_stairs(web, (path,))[0]


def lower_stair(web, path):
    """The STAIR that LOWER of a PATH is."""
    return _lowered(loads_of(need_web(web)), path, path_stair(web, path))


def span(web, path, moment):
    """The SPAN of a PATH at a MOMENT, as a pair (LOWER, UPPER)."""
    _need_path(web, path)
    need_integer(moment)
    return span_of(loads_of(web)[path[-1]], path_stair(web, path)(moment))


def need_reads(web, thing):
    """The thing itself, if it is READS of the WEB."""
    names = names_of(web)
    if not is_tuple(thing, 1, _MOST_READS):
        raise BadReads(())
    for index, name in enumerate(thing):
        if not is_name_in(name, names) or name in thing[:index]:
            raise BadReads((index,))
    return thing


def leaves(web, reads):
    """The LEAVES: all PATHs of the NAMEs, in order."""
    need_reads(web, reads)
    found = [path for name in reads for path in paths_of(web, name)]
    need_few_paths(found)
    return tuple(found)


def path_stairs(web, routes):
    """The STAIRs of some PATHs, in order."""
    beats, modes = beats_of(web), modes_of(web)
    # PATHs begin alike, and putting STAIRs together takes long, so each beginning is put together once.
    known = {}
    for path in routes:
        for many in range(1, len(path) + 1):
            part = path[:many]
            if part not in known and many == 1:
                known[part] = _begun(beats, path[0])
            elif part not in known:
                known[part] = _led_on(beats, path[many - 1], as_read(known[path[:many - 1]], modes[part[-2:]]))
    return [known[path] for path in routes]


def span_of(load, seen):
    """The SPAN of what shows a table with this LOAD as it was at a MOMENT."""
    if load is None:
        return seen, seen
    period, offset = load
    lower = seen - (seen - offset) % period
    return lower, lower + period - 1


def leaf_spans(web, reads):
    """For each leaf, in order, the STAIR that LOWER is and how much greater UPPER is."""
    routes = leaves(web, reads)
    loads = loads_of(web)
    return [(_lowered(loads, path, stair), _width(loads[path[-1]]))
            for path, stair in zip(routes, path_stairs(web, routes))]


def _need_path(web, thing):
    """Refuse what is no PATH of the WEB."""
    if not _is_path(web, thing):
        raise OutOfPlace("a PATH of the WEB is asked for")


def _is_path(web, thing):
    """Whether a thing is a PATH of the WEB."""
    names = names_of(web)
    if not is_tuple(thing, 1, len(names)) or not all([is_name_in(name, names) for name in thing]):
        return False
    modes = modes_of(web)
    return thing[-1] in loads_of(web) and all([pair in modes for pair in zip(thing, thing[1:])])


def _begun(beats, name):
    """The STAIR of the first NAME of a PATH."""
    if name in beats:
        return Stair.beat(beats[name])
    return Stair.shift(0)


def _led_on(beats, name, stair):
    """What the STAIR of a PATH is behind its next NAME, when this is read with the STAIR."""
    if name in beats:
        return Stair.beat(beats[name]) * stair
    return stair


def _lowered(loads, path, stair):
    """The STAIR that LOWER of a PATH with this STAIR is."""
    load = loads[path[-1]]
    if load is None:
        return stair
    loaded = Stair.beat((*load, 0))
    # The STAIR of a table's own PATH leaves all as it is, but has a step at each MOMENT, which may be too many.
    if len(path) == 1:
        return loaded
    return loaded * stair


def _width(load):
    """How much greater UPPER is than LOWER."""
    if load is None:
        return 0
    return load[0] - 1
