"""Stuck jobs: who they are, the ring of ready jobs that they wait for, and models in which nobody gets stuck."""

from eventsteps.models import route_of, station_names
from eventsteps.runs import event_run, state_at
from eventsteps.states import LEFT, LOST


def stuck(some_model):
    """Return the list of the stuck jobs of a model, ascending."""
    _, _, _, _, steps = _last_state(some_model)
    return [job for job, step in enumerate(steps) if step not in (LEFT, LOST)]


def ring(some_model):
    """Return the list of the jobs that wait for each other in a circle, the least one first, or None."""
    ready = _ready_jobs(some_model)
    if not ready:
        return None
    row = []
    job = min(list(ready))
    while job not in row:
        row.append(job)
        job = min(_holders(ready, job))
    circle = row[row.index(job):]
    first = circle.index(min(circle))
    return circle[first:] + circle[:first]


def shows_stuck(some_model, jobs):
    """Tell whether a list of jobs shows that a model gets stuck."""
    ready = _ready_jobs(some_model)
    if not jobs or len(set(jobs)) < len(jobs) or any([job not in ready for job in jobs]):
        return False
    following = jobs[1:] + jobs[:1]
    # That the next station is full and its servers are all held need not be asked: a job for which this is not so
    # would have gone on.
    return all([after in _holders(ready, job) for job, after in zip(jobs, following)])


def goes_up(some_model):
    """Tell whether the stations can be put in an order in which each route only goes up."""
    pairs = [(name, after) for _, _, route in some_model[1] for (name, _), (after, _) in zip(route, route[1:])]
    names = station_names(some_model)
    lowest = names
    while lowest:
        reached = [after for name, after in pairs if name in names]
        lowest = [name for name in names if name not in reached]
        names = [name for name in names if name in reached]
    return not names


def _last_state(some_model):
    """Return the state behind the last event."""
    events = event_run(some_model)
    return state_at(some_model, events[-1][0] + 1 if events else 0)


def _ready_jobs(some_model):
    """Return, for each job that is ready for ever, the pair of its station and that of its next step."""
    _, _, _, ready, steps = _last_state(some_model)
    stations = {}
    for _, job in ready:
        route = route_of(some_model, job)
        # A job behind its last step would have left: there is a next one.
        stations[job] = (route[steps[job]][0], route[steps[job] + 1][0])
    return stations


def _holders(ready, job):
    """Return the list of the ready jobs that hold the servers of the station of a ready job's next step."""
    _, after = ready[job]
    return [other for other, (name, _) in ready.items() if name == after]
