"""States of a model's run, and what happens at one time."""

from eventsteps.models import is_paused, route_of

# What a state tells instead of the index of a job's step.
NOT_COME = -1
LEFT = -2
LOST = -3


def first_state(some_model):
    """Return the state at the time 0, ahead of all events."""
    stations, _, _, jobs = some_model
    nobody = ((),) * len(stations)
    return (0, nobody, nobody, (), (NOT_COME,) * len(jobs))


def happen(some_model, state):
    """Return the list of the events at the time of a state, and the state at this time plus 1."""
    moment = Moment(some_model, state)
    moment.end_services()
    moment.settle()
    moment.let_jobs_come()
    moment.settle()
    moment.block_jobs()
    return (moment.events, moment.state_behind())


def next_time(some_model, state):
    """Return the least time, not ahead of that of the state, at which something may happen, or None."""
    _, _, pauses, jobs = some_model
    now, _, serving, _, _ = state
    times = [end for pairs in serving for end, _ in pairs]
    times.extend([time for time, _ in jobs])
    times.extend([end for _, _, end in pauses])
    return min([time for time in times if time >= now], default=None)


class Moment:
    """One time of a run: who is where, and the events that have happened at this time so far."""

    def __init__(self, some_model, state):
        time, waiting, serving, ready, steps = state
        names = [station[0] for station in some_model[0]]
        self.some_model = some_model
        self.stations = {name: (servers, room, discipline) for name, servers, room, discipline in some_model[0]}
        self.time = time
        self.waiting = {name: list(jobs) for name, jobs in zip(names, waiting)}
        self.serving = {name: list(pairs) for name, pairs in zip(names, serving)}
        self.steps = list(steps)
        # Each ready job stands here with its station, too: (time at which it became ready, job, station).
        self.ready = [(since, job, self.step_of(job)[0]) for since, job in ready]
        self.events = []

    def step_of(self, job):
        """Return the station and the duration of the step of a job that is there."""
        return route_of(self.some_model, job)[self.steps[job]]

    def held_servers(self, name):
        """Return how many servers of a station are held by jobs."""
        return len(self.serving[name]) + len([job for _, job, station in self.ready if station == name])

    def is_full(self, name):
        """Tell whether as many jobs are at a station as its room says."""
        _, room, _ = self.stations[name]
        return room is not None and len(self.waiting[name]) + self.held_servers(name) >= room

    def end_services(self):
        """Let each service end whose time has come, in the order of the jobs."""
        ended = [(job, name) for name, pairs in self.serving.items() for end, job in pairs if end == self.time]
        for job, name in sorted(ended):
            self.serving[name].remove((self.time, job))
            # All others became ready earlier, so that the ready jobs stay in the order in which they go on.
            self.ready.append((self.time, job, name))
            self.tell("end", job, name)

    def settle(self):
        """Let ready jobs go on and services begin, in rounds, until a round makes no event."""
        many = None
        while many != len(self.events):
            many = len(self.events)
            self.let_jobs_go_on()
            self.begin_services()

    def let_jobs_go_on(self):
        """Let each ready job leave, or move if there is a place for it."""
        for since, job, name in list(self.ready):
            route = route_of(self.some_model, job)
            step = self.steps[job] + 1
            if step == len(route):
                self.ready.remove((since, job, name))
                self.steps[job] = LEFT
                self.tell("leave", job, name)
            elif not self.is_full(route[step][0]):
                self.ready.remove((since, job, name))
                self.let_wait("move", job, step)

    def let_wait(self, word, job, step):
        """Let a job wait at the station of a step of its route."""
        self.steps[job] = step
        name, _ = self.step_of(job)
        self.waiting[name].append(job)
        self.tell(word, job, name)

    def begin_services(self):
        """Let services begin at each station, as long as a server is free and a job waits."""
        for name in self.stations:
            while self.waiting[name] and self.may_begin(name):
                job = self.first_to_serve(name)
                _, duration = self.step_of(job)
                self.waiting[name].remove(job)
                self.serving[name].append((self.time + duration, job))
                self.tell("begin", job, name)

    def may_begin(self, name):
        """Tell whether a station has a free server and is not paused."""
        servers, _, _ = self.stations[name]
        return self.held_servers(name) < servers and not is_paused(self.some_model, name, self.time)

    def first_to_serve(self, name):
        """Return which one of the jobs that wait at a station is served first."""
        _, _, discipline = self.stations[name]
        if discipline == "last":
            return self.waiting[name][-1]
        if discipline == "priority":
            # Of several jobs max takes the one that stands first, which came to wait first.
            return max(self.waiting[name], key=self.priority_of)
        return self.waiting[name][0]

    def priority_of(self, job):
        """Return the priority of a job's kind."""
        _, kinds, _, jobs = self.some_model
        _, kind = jobs[job]
        priorities = {name: priority for name, priority, _ in kinds}
        return priorities[kind]

    def let_jobs_come(self):
        """Let each job come, or be lost, whose time it is."""
        for job, (time, _) in enumerate(self.some_model[3]):
            if time == self.time:
                name, _ = route_of(self.some_model, job)[0]
                if self.is_full(name):
                    self.steps[job] = LOST
                    self.tell("lost", job, name)
                else:
                    self.let_wait("come", job, 0)

    def block_jobs(self):
        """Tell of each job that became ready at this time and has not gone on."""
        for since, job, name in self.ready:
            if since == self.time:
                self.tell("block", job, name)

    def tell(self, word, job, name):
        """Put an event behind the others."""
        self.events.append((self.time, word, job, name))

    def state_behind(self):
        """Return the state at the next time."""
        return (
            self.time + 1,
            tuple([tuple(jobs) for jobs in self.waiting.values()]),
            tuple([tuple(sorted(pairs)) for pairs in self.serving.values()]),
            tuple([(since, job) for since, job, _ in self.ready]),
            tuple(self.steps),
        )
