"""Conditions and sayings about a trace, and the answers to them."""

from eventsteps.places import history, how_many, places_at


def holds_at(some_model, events, condition, time):
    """Tell whether a condition holds behind all events of a time."""
    return _holds(places_at(some_model, events, time), condition)


def answer(some_model, events, saying):
    """Return the answer to a saying, a pair of its truth and a time or None."""
    word, *parts = saying
    answer_of = ANSWERS[word]
    # Only at the times of the history something changes, so that each least time that is asked for is one of them.
    rows = history(some_model, events)
    return answer_of(rows, *parts)


def _holds(places, condition):
    """Tell whether a condition holds where the jobs are at these places."""
    word, *parts = condition
    if word == "count":
        counted, station, relation, number = parts
        return _is_related(how_many(places, counted, station), relation, number)
    if word == "job":
        job, where = parts
        # Of a job that is not there nothing holds.
        return 0 <= job < len(places) and places[job][0] == where
    if word == "not":
        return not _holds(places, parts[0])
    if word == "and":
        return _holds(places, parts[0]) and _holds(places, parts[1])
    return _holds(places, parts[0]) or _holds(places, parts[1])


def _is_related(value, relation, number):
    """Tell whether a relation is between a value and a number."""
    if relation == "=":
        return value == number
    if relation in ("<", "<="):
        return value < number or (relation == "<=" and value == number)
    return value > number or (relation == ">=" and value == number)


def _always(rows, condition):
    time = _least(_times(rows, ("not", condition)))
    return (time is None, time)


def _ever(rows, condition):
    time = _least(_times(rows, condition))
    return (time is not None, time)


def _until(rows, condition, goal):
    reached = _least(_times(rows, goal))
    broken = _least(_times(rows, ("not", ("or", condition, goal))))
    if reached is None or (broken is not None and broken < reached):
        return (False, broken)
    return (True, reached)


def _within(rows, condition, number, goal):
    reached = _times(rows, goal)
    # Where nothing happens at a time that breaks this, the time ahead of it breaks it, too.
    time = _least([since for since in _times(rows, condition) if not _is_any_from(reached, since, since + number)])
    return (time is None, time)


ANSWERS = {"always": _always, "ever": _ever, "until": _until, "within": _within}


def _times(rows, condition):
    """Return the times of a history at which a condition holds."""
    return [time for time, places in rows if _holds(places, condition)]


def _is_any_from(times, first, last):
    return any([first <= time <= last for time in times])


def _least(times):
    """Return the least time of a list, or None."""
    return min(times, default=None)
