"""Models: how they are made of lists, and what a model tells of itself."""

from eventsteps.errors import ModelError
from eventsteps.limits import DURATION, JOBS, KINDS, LETTERS, PAUSES, PRIORITY, ROOM, SERVERS, STATIONS, STEPS, TIME

DISCIPLINES = ("first", "last", "priority")


def model(stations, kinds, pauses, jobs):
    """Return the model of these lists; raise ModelError with their first fault."""
    _check_stations(stations)
    _check_kinds(kinds, _names(stations))
    _check_pauses(pauses, _names(stations))
    _check_jobs(jobs, _names(kinds))
    return (
        tuple(sorted(stations, key=lambda station: station[0])),
        tuple(sorted(kinds, key=lambda kind: kind[0])),
        tuple(sorted(pauses)),
        # By the time alone: jobs of one time stay in the order of the list.
        tuple(sorted(jobs, key=lambda job: job[0])),
    )


def station_names(some_model):
    """Return the list of the names of a model's stations, ascending."""
    return _names(some_model[0])


def route_of(some_model, job):
    """Return the route of the kind of a job, which is called by its number."""
    _, kinds, _, jobs = some_model
    _, kind = jobs[job]
    routes = {name: route for name, _, route in kinds}
    return routes[kind]


def servers_of(some_model, name):
    """Return how many servers a station has."""
    servers = {station: many for station, many, _, _ in some_model[0]}
    return servers[name]


def is_paused(some_model, name, time):
    """Tell whether a station is paused at a time."""
    return any([station == name and begin <= time < end for station, begin, end in some_model[2]])


def is_name(text):
    """Tell whether a string is a name: a letter, then letters or digits, and not too long."""
    if not 1 <= len(text) <= LETTERS:
        return False
    return _is_letter(text[0]) and all([_is_letter(sign) or "0" <= sign <= "9" for sign in text])


def _is_letter(sign):
    return "a" <= sign <= "z"


def _names(rows):
    """The names of stations or kinds, which stand first in them."""
    return [row[0] for row in rows]


def _raise_first(faults):
    """Raise ModelError for the first fault; None stands for each entry without one."""
    for place, what in enumerate(faults):
        if what is not None:
            raise ModelError(what, place)


def _check_stations(stations):
    _raise_first([_station_fault(station, _names(stations[:place])) for place, station in enumerate(stations)])
    if not 1 <= len(stations) <= STATIONS:
        raise ModelError("wrong number of stations", len(stations))


def _station_fault(station, earlier):
    """Return the first fault of a station that stands behind those with the earlier names, or None."""
    name, servers, room, discipline = station
    if not is_name(name):
        return "wrong name"
    if name in earlier:
        return "named twice"
    if not 1 <= servers <= SERVERS:
        return "wrong servers"
    if room is not None and not servers <= room <= ROOM:
        return "wrong room"
    if discipline not in DISCIPLINES:
        return "wrong discipline"
    return None


def _check_kinds(kinds, stations):
    _raise_first([_kind_fault(kind, _names(kinds[:place]), stations) for place, kind in enumerate(kinds)])
    if not 1 <= len(kinds) <= KINDS:
        raise ModelError("wrong number of kinds", len(kinds))


def _kind_fault(kind, earlier, stations):
    """Return the first fault of a kind that stands behind those with the earlier names, or None."""
    name, priority, route = kind
    if not is_name(name):
        return "wrong kind name"
    if name in earlier:
        return "kind named twice"
    if not 0 <= priority <= PRIORITY:
        return "wrong priority"
    if not _is_route(route, stations):
        return "wrong route"
    return None


def _is_route(route, stations):
    if not 1 <= len(route) <= STEPS:
        return False
    return all([station in stations and 1 <= duration <= DURATION for station, duration in route])


def _check_pauses(pauses, stations):
    _raise_first([pause_fault(pause, pauses[:place], stations) for place, pause in enumerate(pauses)])
    if len(pauses) > PAUSES:
        raise ModelError("too many pauses", len(pauses))


def pause_fault(pause, earlier, stations):
    """Return the first fault of a pause that stands behind the earlier ones, or None."""
    station, begin, end = pause
    if station not in stations:
        return "unknown station"
    if not 0 <= begin < end <= TIME:
        return "wrong pause"
    if any([_meet(pause, other) for other in earlier]):
        return "pauses meet"
    return None


def _meet(pause, other):
    """Tell whether two pauses are of one station and overlap or touch."""
    station, begin, end = pause
    other_station, other_begin, other_end = other
    return station == other_station and begin <= other_end and other_begin <= end


def _check_jobs(jobs, kinds):
    _raise_first([_job_fault(job, kinds) for job in jobs])
    if len(jobs) > JOBS:
        raise ModelError("too many jobs", len(jobs))


def _job_fault(job, kinds):
    """Return the first fault of a job, or None."""
    time, kind = job
    if not 0 <= time <= TIME:
        return "wrong time"
    if kind not in kinds:
        return "unknown kind"
    return None
