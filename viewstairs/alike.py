"""WEBs of the same SHAPE: whether the same is read from both, and where what is read parts."""

from viewstairs.errors import OutOfPlace
from viewstairs.paths import leaf_spans
from viewstairs.stairs import first_unlike
from viewstairs.webs import need_web


def parting(web, other, reads):
    """The first MOMENT from 0 on at which SPANs are unlike in two WEBs, and the first such leaf, or None."""
    _need_same_shape(web, other)
    # The tables are equal, so SPANs are unlike exactly if their LOWERs are.
    moments = [first_unlike(here, there) for here, there in zip(_lowers(web, reads), _lowers(other, reads))]
    found = None
    for index, moment in enumerate(moments):
        if moment is not None and (found is None or moment < found[0]):
            found = moment, index
    return found


def are_same(web, other, reads):
    """Whether READS show the SAME in two WEBs."""
    return parting(web, other, reads) is None


def _need_same_shape(web, other):
    """Refuse WEBs of unlike SHAPE."""
    need_web(web)
    need_web(other)
    if _shape(web) != _shape(other):
        raise OutOfPlace("two WEBs of the same SHAPE are asked for")


def _shape(web):
    """What WEBs of the same SHAPE have in common."""
    tables, views = web
    return tables, [(name, [source for source, _ in sources]) for name, _, sources in views]


def _lowers(web, reads):
    """The STAIRs that LOWERs of all LEAVES are, in order."""
    return [lower for lower, _ in leaf_spans(web, reads)]
