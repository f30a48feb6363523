"""Counting over time: values, integrals and means of counts, use and flow of stations, and their accounts."""

from math import gcd

from eventsteps.models import servers_of
from eventsteps.places import history, how_many, places_at
from eventsteps.traces import stays

WORDS = ("there", "waiting", "served", "ready")


def value_at(some_model, events, word, station, time):
    """Return the value of a count behind all events of a time."""
    return how_many(places_at(some_model, events, time), word, station)


def integral(some_model, events, word, station, window):
    """Return the sum of the values of a count at all times of a window."""
    begin, end = window
    rows = history(some_model, events)
    # What is so behind the last event is so up to the end of the window, and longer.
    nexts = [time for time, _ in rows[1:]] + [end]
    total = 0
    for (time, places), after in zip(rows, nexts):
        length = min(after, end) - max(time, begin)
        if length > 0:
            total += length * how_many(places, word, station)
    return total


def mean(some_model, events, word, station, window):
    """Return the mean of a count over a window, as a pair in lowest terms."""
    return _quotient(integral(some_model, events, word, station, window), _length(window))


def use(some_model, events, station, window):
    """Return which share of a station's servers is held over a window, as a pair in lowest terms."""
    served = integral(some_model, events, "served", station, window)
    ready = integral(some_model, events, "ready", station, window)
    return _quotient(served + ready, servers_of(some_model, station) * _length(window))


def flow(events, station, window):
    """Return how many jobs go on from a station within a window."""
    begin, end = window
    return len([went for _, went in _stays_at(events, station) if went is not None and begin <= went < end])


def account(some_model, events, station, window):
    """Return the tuple (integral, arrivals, total, before, after) of a station and a window."""
    begin, end = window
    close = max(end, events[-1][0] + 1 if events else 0)
    closed = [(came, close if went is None else went) for came, went in _stays_at(events, station)]
    earlier = [(came, went) for came, went in closed if came < begin]
    within = [(came, went) for came, went in closed if begin <= came < end]
    return (
        integral(some_model, events, "there", station, window),
        len(within),
        sum([went - came for came, went in within]),
        sum([max(0, min(went, end) - begin) for _, went in earlier]),
        sum([max(0, went - end) for _, went in within]),
    )


def _stays_at(events, station):
    """Return the pairs (came, went) of all stays at a station."""
    jobs = sorted({job for _, _, job, _ in events})
    return [(came, went) for job in jobs for name, came, _, _, went in stays(events, job) if name == station]


def _length(window):
    """Return the length of a window."""
    begin, end = window
    # What is no window, since it does not end behind its begin, has the integral 0, and 0 as its mean and use.
    return max(end - begin, 1)


def _quotient(top, bottom):
    """Return a quotient as a pair in lowest terms."""
    common = gcd(top, bottom)
    return (top // common, bottom // common)
