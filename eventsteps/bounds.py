"""Bounds: times ahead of which the last event of a model cannot be, unless something is lost or stuck."""

from eventsteps.models import route_of, servers_of, station_names
from eventsteps.runs import event_run


def work(some_model, name):
    """Return the sum of the durations of all steps of all jobs at a station."""
    return sum([duration for _, duration, _ in _steps_at(some_model, name)])


def station_bound(some_model, name):
    """Return the bound of a station, or None if no job has a step there."""
    steps = _steps_at(some_model, name)
    if not steps:
        return None
    servers = servers_of(some_model, name)
    early = min([ahead for ahead, _, _ in steps])
    full = (work(some_model, name) + servers - 1) // servers
    late = min([behind for _, _, behind in steps])
    return early + full + late


def job_bound(some_model, job):
    """Return the bound of a job."""
    time, _ = some_model[3][job]
    return time + sum([duration for _, duration in route_of(some_model, job)])


def bottleneck(some_model):
    """Return the station or the job with the greatest bound, with this bound, or None without jobs."""
    stations = [("station", name, station_bound(some_model, name)) for name in station_names(some_model)]
    bounds = [row for row in stations if row[2] is not None]
    bounds.extend([("job", job, job_bound(some_model, job)) for job in range(len(some_model[3]))])
    # Of several max takes the first one, and the stations stand ahead of the jobs.
    return max(bounds, key=lambda row: row[2], default=None)


def slack(some_model):
    """Return by how much the last event is later than the greatest bound, or None where not all jobs leave."""
    events = event_run(some_model)
    leaving = [job for _, word, job, _ in events if word == "leave"]
    if not leaving or len(leaving) < len(some_model[3]):
        return None
    _, _, bound = bottleneck(some_model)
    return events[-1][0] - bound


def _steps_at(some_model, name):
    """Return, for each step of a job at a station, the time ahead of which it cannot begin, its duration, and the
    sum of the durations behind it."""
    found = []
    for job, (time, _) in enumerate(some_model[3]):
        route = route_of(some_model, job)
        durations = [duration for _, duration in route]
        for at, (station, duration) in enumerate(route):
            if station == name:
                found.append((time + sum(durations[:at]), duration, sum(durations[at + 1:])))
    return found
