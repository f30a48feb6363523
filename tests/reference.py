"""What the tests compare the package with: models from words and by chance, and slow ways to find what is told of them.

`slow_trace` goes through each time and asks the jobs, one by one, where they are; `slow_places` tells where they were
at each time; `told_state` reads a state off the events of a trace. None uses more of the package than the model itself.
"""

import random

from eventsteps.models import model as new_model

NAMES = ("a", "b", "c", "d", "e", "f")


def events_of(text):
    """The events that a text tells, a line each: a time, a word, a job and a station."""
    rows = [line.split() for line in text.strip().splitlines()]
    return [(int(time), word, int(job), station) for time, word, job, station in rows]


def stations_of(*rows):
    """Stations from words: a name, servers, room and, if it is not `first`, a discipline."""
    made = []
    for row in rows:
        name, servers, room, *discipline = row.split()
        made.append((name, int(servers), None if room == "-" else int(room), (discipline or ["first"])[0]))
    return made


def kind_of(row):
    """A kind from words: a name, a priority, and its steps."""
    name, priority, *steps = row.split()
    return (name, int(priority), tuple((step.split(":")[0], int(step.split(":")[1])) for step in steps))


def simple(stations, kinds, jobs, pauses=()):
    """A model from lists of words; the jobs as one string of times and kinds."""
    words = jobs.split()
    pairs = [(int(time), kind) for time, kind in zip(words[::2], words[1::2])]
    return new_model(stations_of(*stations), [kind_of(row) for row in kinds], list(pauses), pairs)


def some_stations(chance):
    names = NAMES[:chance.randint(1, 4)]
    stations = []
    for name in names:
        servers = chance.choice((1, 1, 1, 2, 3))
        room = chance.choice((None, servers, servers, servers + 1, servers + 2))
        stations.append((name, servers, room, chance.choice(("first", "last", "priority"))))
    return stations


def some_kinds(chance, stations, longest):
    kinds = []
    for name in ("k", "m", "x", "y")[:chance.randint(1, 4)]:
        route = [(chance.choice(stations)[0], chance.randint(1, longest)) for _ in range(chance.randint(1, 5))]
        kinds.append((name, chance.randint(0, 2), tuple(route)))
    return kinds


def some_pauses(chance, stations, latest):
    pauses = []
    for name, _, _, _ in stations:
        time = chance.randint(0, latest)
        for _ in range(chance.randint(0, 2)):
            end = time + chance.randint(1, latest)
            pauses.append((name, time, end))
            time = end + chance.randint(1, latest)
    return pauses


def some_model(number, longest=5, latest=12, most=12):
    """The model with this number: small, with few times, so that much happens at one time; in the order of [3]."""
    chance = random.Random(number)
    stations = some_stations(chance)
    kinds = some_kinds(chance, stations, longest)
    times = sorted(chance.randint(0, latest) for _ in range(chance.randint(0, most)))
    jobs = [(time, chance.choice(kinds)[0]) for time in times]
    return (tuple(stations), tuple(kinds), tuple(some_pauses(chance, stations, latest)), tuple(jobs))


class SlowJob:
    def __init__(self, number, time, priority, route):
        self.number = number
        self.time = time
        self.priority = priority
        self.route = route
        self.where = "absent"
        self.step = 0
        # When it came to wait, counted over the whole run; when it began to be served; when it became ready.
        self.turn = self.began = self.since = None

    def is_at(self, name, *where):
        return self.where in where and self.route[self.step][0] == name


class SlowRun:
    def __init__(self, model):
        self.stations, kinds, self.pauses, jobs = model
        told = {name: (priority, route) for name, priority, route in kinds}
        self.jobs = [SlowJob(number, time, *told[kind]) for number, (time, kind) in enumerate(jobs)]
        self.rooms = {name: room for name, _, room, _ in self.stations}
        self.turns = 0
        self.events = []

    def tell(self, time, word, job):
        self.events.append((time, word, job.number, job.route[job.step][0]))

    def many(self, name, *where):
        return sum(job.is_at(name, *where) for job in self.jobs)

    def full(self, name):
        room = self.rooms[name]
        return room is not None and self.many(name, "waiting", "served", "ready") == room

    def wait(self, time, word, job):
        job.where, job.turn = "waiting", self.turns
        self.turns += 1
        self.tell(time, word, job)

    def ends(self, time):
        for job in self.jobs:
            if job.where == "served" and job.began + job.route[job.step][1] == time:
                job.where, job.since = "ready", time
                self.tell(time, "end", job)

    def moves(self, time):
        in_order = sorted((job.since, job.number) for job in self.jobs if job.where == "ready")
        for _, number in in_order:
            job = self.jobs[number]
            if job.step + 1 == len(job.route):
                job.where = "left"
                self.tell(time, "leave", job)
            elif not self.full(job.route[job.step + 1][0]):
                job.step += 1
                self.wait(time, "move", job)

    def choose(self, name, discipline):
        waiting = sorted((job.turn, job.number) for job in self.jobs if job.is_at(name, "waiting"))
        if discipline == "last":
            waiting.reverse()
        if discipline == "priority":
            waiting.sort(key=lambda pair: (-self.jobs[pair[1]].priority, pair[0]))
        return self.jobs[waiting[0][1]]

    def begins(self, time):
        for name, servers, _, discipline in self.stations:
            if any(station == name and time in range(begin, end) for station, begin, end in self.pauses):
                continue
            while self.many(name, "served", "ready") != servers and self.many(name, "waiting"):
                job = self.choose(name, discipline)
                job.where, job.began = "served", time
                self.tell(time, "begin", job)

    def settle(self, time):
        before = None
        while before != self.events:
            before = list(self.events)
            self.moves(time)
            self.begins(time)

    def come(self, time):
        for job in self.jobs:
            if job.time == time:
                if self.full(job.route[0][0]):
                    job.where = "lost"
                    self.tell(time, "lost", job)
                else:
                    self.wait(time, "come", job)

    def step(self, time):
        self.ends(time)
        self.settle(time)
        self.come(time)
        self.settle(time)
        for job in self.jobs:
            if job.where == "ready" and job.since == time:
                self.tell(time, "block", job)


def last_time(model):
    """A time behind which nothing can happen: all that comes has come, and all services were one behind another."""
    _, kinds, pauses, jobs = model
    lengths = {name: sum(duration for _, duration in route) for name, _, route in kinds}
    times = [0] + [time for time, _ in jobs] + [end for _, _, end in pauses]
    return max(times) + sum(lengths[kind] for _, kind in jobs)


def slow_trace(model):
    """The trace of a model, found by a look at each time."""
    run = SlowRun(model)
    for time in range(last_time(model) + 1):
        run.step(time)
    return run.events


def slow_places(model, last):
    """For each time from 0 to the last one, behind all its events: a pair of a word and a station for each job."""
    run = SlowRun(model)
    rows = []
    for time in range(last + 1):
        run.step(time)
        there = ("waiting", "served", "ready")
        rows.append([(job.where, job.route[job.step][0] if job.where in there else None) for job in run.jobs])
    return rows


def slow_value(places, word, station):
    """The value of a count where the jobs are at these places."""
    words = ("waiting", "served", "ready") if word == "there" else (word,)
    names = [name for where, name in places if where in words]
    return len(names) if station is None else names.count(station)


def slow_end(model):
    """The jobs of the slow run behind all that happens."""
    run = SlowRun(model)
    for time in range(last_time(model) + 1):
        run.step(time)
    return run.jobs


def told_state(model, events, time):
    """The state at a time, read off the events of a trace that are ahead of it."""
    stations, kinds, _, jobs = model
    routes = {name: route for name, _, route in kinds}
    waiting = {name: [] for name, _, _, _ in stations}
    serving = {name: [] for name, _, _, _ in stations}
    ready = {}
    steps = [-1] * len(jobs)
    for now, word, job, station in events:
        if now >= time:
            break
        if word in ("come", "move"):
            steps[job] += 1
            waiting[station].append(job)
        if word == "begin":
            waiting[station].remove(job)
            serving[station].append((now + routes[jobs[job][1]][steps[job]][1], job))
        if word == "end":
            serving[station].remove((now, job))
            ready[job] = now
        if word in ("move", "leave"):
            del ready[job]
        if word in ("leave", "lost"):
            steps[job] = -2 if word == "leave" else -3
    return (
        time,
        tuple(tuple(row) for row in waiting.values()),
        tuple(tuple(sorted(row)) for row in serving.values()),
        tuple(sorted((since, job) for job, since in ready.items())),
        tuple(steps),
    )
