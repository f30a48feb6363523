"""Traces: whether events are the trace of a model, and what a trace tells of a job."""

from eventsteps.runs import event_run

# Where the times of events stand in a stay (station, came, began, ended, went).
PLACES = {"begin": 2, "end": 3, "move": 4, "leave": 4}


def flaw_of(some_model, events):
    """Return where events are not the trace of a model, as a pair of an index and a word, or None."""
    trace = event_run(some_model)
    for index, event in enumerate(events):
        if index == len(trace) or event != trace[index]:
            return (index, "not due")
    if len(events) < len(trace):
        return (len(events), "missing")
    return None


def stays(events, job):
    """Return the list of the stays of a job in a trace, or in the beginning of one."""
    found = []
    for time, word, number, station in events:
        if number == job:
            if word in PLACES:
                found[-1][PLACES[word]] = time
            if word in ("come", "move"):
                found.append([station, time, None, None, None])
    return [tuple(stay) for stay in found]
