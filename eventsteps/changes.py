"""Differences: where the traces of two models part, and what one job costs another one."""

from eventsteps.runs import event_run
from eventsteps.traces import flaw_of


def first_difference(some_model, other):
    """Return the first index at which the traces of two models differ, with both events there, or None."""
    events = event_run(other)
    flaw = flaw_of(some_model, events)
    if flaw is None:
        return None
    index, _ = flaw
    return (index, _event_at(event_run(some_model), index), _event_at(events, index))


def left_out(some_model, job):
    """Return a model without one of its jobs."""
    stations, kinds, pauses, jobs = some_model
    return (stations, kinds, pauses, tuple([row for number, row in enumerate(jobs) if number != job]))


def debt(some_model, job, other):
    """Return how much later another job leaves with a job than without it, or None."""
    if job == other:
        return None
    time_with = _leaving_time(some_model, other)
    # The jobs behind the one that is left out have moved down by one.
    time_without = _leaving_time(left_out(some_model, job), other - 1 if other > job else other)
    if time_with is None or time_without is None:
        return None
    return time_with - time_without


def _event_at(events, index):
    """Return the event at an index, or None behind the last one."""
    return events[index] if index < len(events) else None


def _leaving_time(some_model, job):
    """Return the time at which a job leaves, or None."""
    times = [time for time, word, number, _ in event_run(some_model) if word == "leave" and number == job]
    return times[0] if times else None
