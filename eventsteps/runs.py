"""Runs of a model: by events, by steps, and from any time on; models that are shifted or stretched."""

from math import gcd

from eventsteps.states import first_state, happen, next_time


def event_run(some_model):
    """Return the trace of a model, found from one time at which something may happen to the next one."""
    return run_from(some_model, first_state(some_model))


def stepped_run(some_model, unit):
    """Return the trace of a model, found at all multiples of a unit."""
    events = []
    time = 0
    state = first_state(some_model)
    while next_time(some_model, state) is not None:
        these, state = happen(some_model, _waited(state, time))
        events.extend(these)
        time += unit
    return events


def common_unit(some_model):
    """Return the greatest integer that divides all times and durations of a model."""
    _, kinds, pauses, jobs = some_model
    numbers = [duration for _, _, route in kinds for _, duration in route]
    numbers.extend([time for _, begin, end in pauses for time in (begin, end)])
    numbers.extend([time for time, _ in jobs])
    unit = 0
    for number in numbers:
        unit = gcd(unit, number)
    # Each integer divides 0, so that there is no greatest one if all is 0.
    return max(unit, 1)


def state_at(some_model, time):
    """Return the state of a model's run behind all events ahead of a time."""
    _, state = run_until(some_model, first_state(some_model), time)
    return state


def run_until(some_model, state, time):
    """Return the list of the events from the time of a state on and ahead of a later time, and the state there."""
    events = []
    due = next_time(some_model, state)
    while due is not None and due < time:
        these, state = happen(some_model, _waited(state, due))
        events.extend(these)
        due = next_time(some_model, state)
    return (events, _waited(state, time))


def run_from(some_model, state):
    """Return the list of the events from the time of a state on."""
    events = []
    due = next_time(some_model, state)
    while due is not None:
        these, state = happen(some_model, _waited(state, due))
        events.extend(these)
        due = next_time(some_model, state)
    return events


def _waited(state, time):
    """Return the state at a later time, if nothing happens until then."""
    return (time,) + state[1:]


def shifted(some_model, many):
    """Return a model with an integer added to all its times."""
    stations, kinds, pauses, jobs = some_model
    return (
        stations,
        kinds,
        tuple([(name, begin + many, end + many) for name, begin, end in pauses]),
        tuple([(time + many, kind) for time, kind in jobs]),
    )


def stretched(some_model, many):
    """Return a model with all its times and durations multiplied by an integer."""
    stations, kinds, pauses, jobs = some_model
    return (
        stations,
        tuple([(name, priority, _stretched_route(route, many)) for name, priority, route in kinds]),
        tuple([(name, begin * many, end * many) for name, begin, end in pauses]),
        tuple([(time * many, kind) for time, kind in jobs]),
    )


def _stretched_route(route, many):
    return tuple([(station, duration * many) for station, duration in route])
