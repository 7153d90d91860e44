"""Runs as [31] and [80] tell them, MOMENT by MOMENT, to hold the program against."""

from tests import model_webs


class PlainRun:
    """A WEB that runs with values; of each PATH it knows what is shown, and up to which MOMENT."""

    def __init__(self, web):
        self.web = web
        self.beats = {name: beat for name, beat, _ in web[1]}
        self.written = {name: () for name, _ in web[0]}
        self.started = {name: [] for name in self.beats}
        self.shown = {}
        self.moment = -model_webs.settled(web)
        self.let_pass(-self.moment)

    def write(self, table, value):
        self.written[table] += (value,)

    def retime(self, view, beat):
        self.beats[view] = beat

    def may_write(self, table):
        load = dict(self.web[0])[table]
        return load is None or self.moment % load[0] == load[1]

    def let_pass(self, many):
        for _ in range(many):
            self.step()

    def step(self):
        before = dict(self.shown)
        for name, values in self.written.items():
            self.shown[(name,)] = self.moment, values
        for name, _, sources in self.web[1]:
            period, offset, takes = self.beats[name]
            if self.moment % period == offset:
                read = {}
                for source, mode in sources:
                    told = self.shown if mode == "with" else before
                    read.update({(name,) + path: told[path] for path in told if path[0] == source})
                self.started[name].append((self.moment, self.moment + takes, read))
            # What is done never comes back, and the latest start of all that is done is shown.
            done = [row for row in self.started[name] if row[1] <= self.moment]
            if done:
                self.shown.update(max(done, key=lambda row: row[0])[2])
                latest = max(row[0] for row in done)
                self.started[name] = [row for row in self.started[name] if row[0] >= latest]
        self.moment += 1

    def told(self, name):
        """What run[name] is."""
        return {path: self.shown[path][1] for path in model_webs.routes(self.web, name)}

    def read(self, reads):
        return tuple(self.shown[path][1] for name in reads for path in model_webs.routes(self.web, name))

    def is_whole(self, reads):
        seen = {path: moment for path, (moment, _) in self.shown.items()}
        return model_webs.is_whole(model_webs.spans_at(self.web, reads, seen))


def chance_beat(chance, most_period=5, most_takes=6):
    """Some BEAT."""
    period = chance.randint(1, most_period)
    return period, chance.randrange(period), chance.randint(0, most_takes)


def chance_deeds(chance, web, many):
    """So many things that may be done with a Run of the WEB."""
    tables, views = [name for name, _ in web[0]], [name for name, _, _ in web[1]]
    for _ in range(many):
        kind = chance.random()
        if kind < 0.4:
            yield "write", chance.choice(tables), chance.randint(-9, 9)
        elif kind < 0.75:
            yield "pass", chance.choice((0, 1, 1, 1, 2, 3)), None
        else:
            yield "retime", chance.choice(views), chance_beat(chance)
