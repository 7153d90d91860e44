"""Runs: WEBs from the MOMENT 0 on, with what is written to the tables and with other BEATs for views."""

from viewstairs.errors import Missing, OutOfPlace, TooGreat
from viewstairs.integers import need_integer, need_within
from viewstairs.paths import leaves, span_of
from viewstairs.stairs import is_beat
from viewstairs.webs import beats_of, is_name_in, loads_of, modes_of, names_of, need_web, paths

_MOST_WRITES = 1000
_MOST_PASSING = 10 ** 30


class Run:
    """A WEB that runs from the MOMENT 0 on."""

    def __init__(self, web):
        self._web = need_web(web)
        self._moment = 0
        # What happened, in order, each with its MOMENT: (table, MOMENT, value) and (view, MOMENT, BEAT).
        self._writes = []
        self._retimes = []

    @property
    def web(self):
        """The WEB at first."""
        return self._web

    @property
    def moment(self):
        """The MOMENT to come."""
        return self._moment

    def __setitem__(self, name, value):
        loads = loads_of(self._web)
        if not is_name_in(name, loads):
            raise Missing(name)
        need_integer(value)
        if not _is_open(loads[name], self._moment):
            raise OutOfPlace("a MOMENT at which the table may be written is asked for")
        if len(self._writes) >= _MOST_WRITES:
            raise TooGreat(_MOST_WRITES)
        self._writes.append((name, self._moment, value))

    def __iadd__(self, other):
        need_within(other, 0, _MOST_PASSING)
        self._moment = self._moment + other
        return self

    def __getitem__(self, name):
        routes = paths(self._web, name)
        return dict(zip(routes, self._values(routes)))

    def __iter__(self):
        raise TypeError("a Run is not iterated over")

    def __contains__(self, name):
        return is_name_in(name, names_of(self._web))

    def __len__(self):
        return len(self._writes)

    def __eq__(self, other):
        return (isinstance(other, Run) and self._web == other._web and self._moment == other._moment
                and self._tables() == other._tables() and self._retimes == other._retimes)

    def retime(self, name, beat):
        """Give a view another BEAT for all its starts from the MOMENT to come on."""
        if not is_name_in(name, beats_of(self._web)):
            raise Missing(name)
        if not is_beat(beat):
            raise OutOfPlace("a BEAT is asked for")
        self._retimes.append((name, self._moment, beat))

    def read(self, reads):
        """The values that all LEAVES show at the end of the MOMENT ahead of the one to come."""
        return tuple(self._values(leaves(self._web, reads)))

    def is_whole(self, reads):
        """Whether READS are WHOLE at the end of the MOMENT ahead of the one to come."""
        routes = leaves(self._web, reads)
        loads = loads_of(self._web)
        spans = [span_of(loads[path[-1]], seen) for path, seen in zip(routes, self._seen(routes))]
        return max([int(lower) for lower, _ in spans]) <= min([int(upper) for _, upper in spans])

    def copy(self):
        """A Run that is as this one and goes on by itself."""
        other = Run(self._web)
        other._moment = self._moment
        other._writes = list(self._writes)
        other._retimes = list(self._retimes)
        return other

    def trial(self):
        """What undoes, behind the block of a with statement, all that became of this Run in it."""
        return Trial(self)

    def _tables(self):
        """What was written to each table, in order, each value with its MOMENT."""
        return [[(moment, value) for other, moment, value in self._writes if other == name]
                for name, _ in self._web[0]]

    def _eras(self):
        """For each view its BEAT at first and the later ones, the last one ahead, with the MOMENTs they begin at."""
        latest_first = self._retimes[::-1]
        return {name: (beat, [(begin, later) for other, begin, later in latest_first if other == name])
                for name, beat, _ in self._web[1]}

    def _seen(self, routes):
        """For each PATH the MOMENT up to which it shows its table at the end of the MOMENT ahead."""
        eras, modes = self._eras(), modes_of(self._web)
        return [_seen_by(eras, modes, path, self._moment - 1) for path in routes]

    def _values(self, routes):
        """For each PATH the tuple of the values that it shows at the end of the MOMENT ahead."""
        return [tuple([value for name, moment, value in self._writes if name == path[-1] and moment <= seen])
                for path, seen in zip(routes, self._seen(routes))]


class Trial:
    """What leaves a Run, behind the block of a with statement, as it was at its beginning."""

    def __init__(self, run):
        self._run = run
        self._moment = 0
        self._writes = []
        self._retimes = []

    def __enter__(self):
        self._moment = self._run._moment
        # The Run goes on with its own lists, so copies of them stay as they are.
        self._writes = list(self._run._writes)
        self._retimes = list(self._run._retimes)
        return self._run

    def __exit__(self, kind, value, trace):
        self._run._moment = self._moment
        self._run._writes = self._writes
        self._run._retimes = self._retimes


def under(manager, deed):
    """What a deed returns that is called in a with statement with what the manager gives."""
    with manager as one:
        return deed(one)


def _is_open(load, moment):
    """Whether a table with this LOAD may be written at a MOMENT."""
    if load is None:
        return True
    period, offset = load
    return (moment - offset) % period == 0


def _seen_by(eras, modes, path, moment):
    """The MOMENT up to which a PATH shows its table at the end of a MOMENT."""
    for name, source in zip(path, path[1:]):
        beat, later = eras[name]
        moment = _last_start(beat, later, moment)
        if modes[(name, source)] == "ahead":
            moment = moment - 1
    return moment


def _last_start(beat, later, moment):
    """The last MOMENT at which a view started what is done by the end of a MOMENT."""
    end = moment
    for begin, other in later:
        start = _start_until(other, moment, end)
        if start >= begin:
            return start
        # What an earlier BEAT started counts up to where the next one began.
        end = begin - 1
    return _start_until(beat, moment, end)


def _start_until(beat, moment, end):
    """The last MOMENT up to an end at which a BEAT starts what is done by the end of a MOMENT."""
    period, offset, takes = beat
    latest = end if end < moment - takes else moment - takes
    return latest - (latest - offset) % period
