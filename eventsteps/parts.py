"""The parts of a model: stations that belong together, with all that happens there."""

from eventsteps.models import route_of, station_names


def parts(some_model):
    """Return the list of the parts of a model, in the order of their first stations."""
    firsts = _firsts(some_model)
    return [_part(some_model, firsts, name) for name in sorted(set(list(firsts.values())))]


def jobs_of_parts(some_model):
    """Return the list of the lists of the numbers that the jobs of the parts have in the whole model."""
    firsts = _firsts(some_model)
    numbers = {name: [] for name in sorted(set(list(firsts.values())))}
    for job in range(len(some_model[3])):
        name, _ = route_of(some_model, job)[0]
        numbers[firsts[name]].append(job)
    return list(numbers.values())


def _firsts(some_model):
    """Return, for each station, the first one of those that belong together with it."""
    firsts = {name: name for name in station_names(some_model)}
    for _, _, route in some_model[1]:
        joined = [firsts[name] for name, _ in route]
        least = min(joined)
        firsts = {name: least if first in joined else first for name, first in firsts.items()}
    return firsts


def _part(some_model, firsts, first):
    """Return the model of the stations that belong together with a first one."""
    stations, kinds, pauses, jobs = some_model
    # All steps of a route are in one part, so that its first one tells the part of a kind.
    own_kinds = [kind for kind in kinds if firsts[kind[2][0][0]] == first]
    kind_names = [name for name, _, _ in own_kinds]
    return (
        tuple([station for station in stations if firsts[station[0]] == first]),
        tuple(own_kinds),
        tuple([pause for pause in pauses if firsts[pause[0]] == first]),
        tuple([job for job in jobs if job[1] in kind_names]),
    )
