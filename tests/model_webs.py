"""WEBs as [31] runs them, MOMENT by MOMENT, and what [34] and [50] define, to hold the program against."""

import random


def parts(web):
    """The LOADs, and the views, by their NAMEs."""
    tables, views = web
    return dict(tables), {name: (beat, sources) for name, beat, sources in views}


def routes(web, name):
    """The PATHs of a NAME, one by one."""
    _, views = parts(web)
    if name not in views:
        yield (name,)
        return
    for source, _ in views[name][1]:
        for route in routes(web, source):
            yield (name,) + route


def settled(web):
    """So many MOMENTs before some MOMENT the refreshes may begin, and all views show something at it."""
    return sum(3 * beat[0] + beat[2] + 1 for _, beat, _ in web[1]) + 1


def run(web, begin, end):
    """For each MOMENT from the begin on, what is shown at its end: for each PATH, up to when its table is seen."""
    tables, views = web
    shown, before = {}, {}
    running = {name: [] for name, _, _ in views}
    for moment in range(begin - settled(web), end):
        before = dict(shown)
        for name, _ in tables:
            shown[(name,)] = moment
        for name, (period, offset, takes), sources in views:
            if moment % period == offset:
                read = {}
                for source, mode in sources:
                    told = shown if mode == "with" else before
                    read.update({(name,) + route: told[route] for route in told if route[0] == source})
                running[name].append((moment + takes, read))
            for done, read in running[name]:
                if done == moment:
                    shown.update(read)
        if moment >= begin:
            yield moment, dict(shown)


def span_at(load, seen):
    """The least and the greatest MOMENT at which a table is the same as at this one."""
    if load is None:
        return seen, seen
    period, offset = load
    lower = seen
    while lower % period != offset:
        lower -= 1
    upper = seen
    while (upper + 1) % period != offset:
        upper += 1
    return lower, upper


def spans_at(web, reads, shown):
    """The SPANs of all LEAVES."""
    loads, _ = parts(web)
    return [span_at(loads[route[-1]], shown[route]) for name in reads for route in routes(web, name)]


def is_whole(spans):
    """Whether there is one MOMENT within all SPANs."""
    lowest, highest = min(low for low, _ in spans), max(high for _, high in spans)
    return any(all(low <= moment <= high for low, high in spans) for moment in range(lowest, highest + 1))


def torn_pair(spans):
    """The first pair of leaves by which they are TORN, or None."""
    many = range(len(spans))
    pairs = [(one, other) for one in many for other in many if spans[one][0] > spans[other][1]]
    return min(pairs) if pairs else None


def chance_web(chance, most_period=5, most_takes=4, most_views=4):
    """Some WEB."""
    tables = []
    for name in "abc"[:chance.randint(1, 3)]:
        period = chance.randint(1, most_period)
        tables.append((name, chance.choice((None, (period, chance.randrange(period))))))
    names, views = [name for name, _ in tables], []
    for name in ["v", "w", "x", "y"][:chance.randint(1, most_views)]:
        period = chance.randint(1, most_period)
        beat = (period, chance.randrange(period), chance.randint(0, most_takes))
        sources = chance.sample(names, chance.randint(1, min(3, len(names))))
        views.append((name, beat, tuple((source, chance.choice(("with", "ahead"))) for source in sources)))
        names.append(name)
    return tuple(tables), tuple(views)


def slow_web(chance):
    """Some WEB whose tables are written seldom, so that READS are WHOLE at some MOMENTs and TORN at others."""
    tables = []
    for name in "abc"[:chance.randint(1, 3)]:
        period = chance.choice((4, 5, 6, 10, 12, 15))
        tables.append((name, (period, chance.randrange(period))))
    names, views = [name for name, _ in tables], []
    for name in ["v", "w", "x"][:chance.randint(2, 3)]:
        period = chance.randint(1, 5)
        sources = chance.sample(names, min(2, len(names)))
        modes = [chance.choice(("with", "with", "ahead")) for _ in sources]
        views.append((name, (period, chance.randrange(period), chance.randint(0, 2)), tuple(zip(sources, modes))))
        names.append(name)
    return tuple(tables), tuple(views)


def chance_webs(seed, many, *bounds):
    """So many WEBs, the same ones for the same seed."""
    chance = random.Random(seed)
    return [chance_web(chance, *bounds) for _ in range(many)]


def slow_webs(seed, many):
    """So many WEBs whose tables are written seldom."""
    chance = random.Random(seed)
    return [slow_web(chance) for _ in range(many)]


def chance_reads(chance, web):
    """Some READS of the WEB."""
    names = [part[0] for part in web[0] + web[1]]
    return tuple(chance.sample(names, chance.randint(1, min(4, len(names)))))


def broad(many):
    """A WEB with a view z that has 200 or 201 PATHs."""
    tables, reaches, behind = {200: (4, (3, 4, 4, 4, 4, 4, 4), (0, 5, 8, 10)),
                               201: (6, (4, 3, 3, 3, 3, 4, 4), (7, 8, 10, 12))}[many]
    names = list("abcdef"[:tables])
    views = []
    for name, reach in zip(("p", "q", "r", "s", "t", "u", "v"), reaches):
        sources = names[::-1][:reach]
        views.append((name, (1, 0, 0), tuple((source, "with") for source in sources)))
        names.append(name)
    views.append(("z", (1, 0, 0), tuple((names[index], "with") for index in behind)))
    return tuple((name, None) for name in names[:tables]), tuple(views)
