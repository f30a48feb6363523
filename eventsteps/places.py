"""Where the jobs of a model are from one time on to the next one at which something happens."""

# What each event makes of its job; a job that is blocked is ready as before.
AFTER = {"come": "waiting", "move": "waiting", "begin": "served", "end": "ready", "leave": "left", "lost": "lost"}
# The words for jobs that are at a station.
THERE = ("waiting", "served", "ready")


def history(some_model, events):
    """Return pairs (time, places), for 0 and each time at which something happens; all stay there until the next one.

    The places are a tuple with a pair for each job: a word, and the station of the job's last event or None.
    """
    places = [("absent", None)] * len(some_model[3])
    rows = {0: tuple(places)}
    for time, word, job, station in events:
        if word in AFTER:
            places[job] = (AFTER[word], station)
        # Of all events of one time the places behind the last one stay in the row.
        rows[time] = tuple(places)
    return list(rows.items())


def places_at(some_model, events, time):
    """Return the places of all jobs behind all events of a time."""
    _, places = history(some_model, [event for event in events if event[0] <= time])[-1]
    return places


def how_many(places, word, station):
    """Return how many jobs wait, are served, are ready or, for `there`, any of these; for None, at all stations."""
    words = THERE if word == "there" else (word,)
    return len([1 for where, name in places if where in words and station in (None, name)])
