"""AGEs: how old is what STAIRs show, and how long what is written waits until it is shown."""

from viewstairs.integers import fraction, need_integer
from viewstairs.paths import leaves, path_stairs
from viewstairs.stairs import need_stair


def greatest_age(stair):
    """The greatest AGE, and the first MOMENT from 0 on that has it."""
    need_stair(stair)
    # An AGE grows until the next step.
    moments = sorted([int((at - 1) % stair.period) for at, _ in stair.steps])
    return _first_greatest([(moment - stair(moment), moment) for moment in moments])


def least_age(stair):
    """The least AGE, and the first MOMENT from 0 on that has it."""
    need_stair(stair)
    head_start, moment = _first_greatest([(value - at, at) for at, value in stair.steps])
    return -head_start, moment


def greatest_wait(stair):
    """The greatest WAIT, and the first MOMENT from 0 on that has it."""
    need_stair(stair)
    age, moment = least_age(~stair)
    return -age, moment


def least_wait(stair):
    """The least WAIT, and the first MOMENT from 0 on that has it."""
    need_stair(stair)
    age, moment = greatest_age(~stair)
    return -age, moment


def share_beyond(stair, number):
    """The part of all MOMENTs with an AGE greater than the number."""
    need_stair(stair)
    need_integer(number)
    many = 0
    for index in range(len(stair)):
        at, value = stair[index]
        end, _ = stair[index + 1]
        old = max(0, end - 1 - value - number)
        many = many + (old if old < end - at else end - at)
    return fraction(many, stair.period)


def report(web, reads):
    """A text with a line for each leaf: the greatest and the least AGE, and the NAMEs of the PATH."""
    routes = leaves(web, reads)
    return "\n".join([_report_line(path, stair) for path, stair in zip(routes, path_stairs(web, routes))])


def _first_greatest(rows):
    """The first one of some pairs whose first part is the greatest one."""
    found = rows[0]
    for row in rows:
        if row[0] > found[0]:
            found = row
    return found


def _report_line(path, stair):
    """The line of a report about one leaf."""
    greatest, _ = greatest_age(stair)
    least, _ = least_age(stair)
    names = " < ".join(path)
    return f"{greatest:>8}{least:>8} {names}"
