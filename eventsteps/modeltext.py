"""Texts of models: how they are told, and how they are read."""

from eventsteps.errors import LineError, ModelError
from eventsteps.models import DISCIPLINES, is_name, model

DIGITS = 5

# The list that each fault of a model is about. Names and disciplines have none here: a wrong one is not understood.
LIST_OF_FAULT = {
    "named twice": "station",
    "wrong servers": "station",
    "wrong room": "station",
    "wrong number of stations": "station",
    "kind named twice": "kind",
    "wrong priority": "kind",
    "wrong route": "kind",
    "wrong number of kinds": "kind",
    "unknown station": "pause",
    "wrong pause": "pause",
    "pauses meet": "pause",
    "too many pauses": "pause",
    "wrong time": "job",
    "unknown kind": "job",
    "too many jobs": "job",
}


def format_model(some_model):
    """Return the text of a model."""
    stations, kinds, pauses, jobs = some_model
    lines = [_station_line(station) for station in stations]
    lines.extend([_kind_line(kind) for kind in kinds])
    lines.extend([f"pause {name} {begin} {end}\n" for name, begin, end in pauses])
    lines.extend([f"job {time} {kind}\n" for time, kind in jobs])
    return "".join(lines)


def _station_line(station):
    name, servers, room, discipline = station
    room_word = "-" if room is None else str(room)
    return f"station {name} {servers} {room_word} {discipline}\n"


def _kind_line(kind):
    name, priority, route = kind
    words = ["kind", name, str(priority)] + [f"{station}:{duration}" for station, duration in route]
    return " ".join(words) + "\n"


def read_model(text):
    """Return the model that a text tells; raise LineError with its first fault."""
    lines = _lines_of(text)
    rows = {"station": [], "kind": [], "pause": [], "job": []}
    numbers = {"station": [], "kind": [], "pause": [], "job": []}
    for number, line in enumerate(lines, start=1):
        first, *words = line.split(" ")
        row = _read_row(first, words)
        if row is None:
            raise LineError("not understood", number)
        rows[first].append(row)
        numbers[first].append(number)
    try:
        return model(rows["station"], rows["kind"], rows["pause"], rows["job"])
    except ModelError as error:
        # Behind the numbers of the lines of a list stands the one for a fault of the list's length.
        places = numbers[LIST_OF_FAULT[error.what]] + [len(lines) + 1]
        raise LineError(error.what, places[error.place]) from error


def _lines_of(text):
    lines = text.split("\n")
    if lines[-1] == "":
        return lines[:-1]
    return lines


def _read_station(words):
    if len(words) != 4:
        return None
    name, servers, room, discipline = words
    if not (is_name(name) and _is_integer(servers) and discipline in DISCIPLINES):
        return None
    if room == "-":
        return (name, int(servers), None, discipline)
    if _is_integer(room):
        return (name, int(servers), int(room), discipline)
    return None


def _read_kind(words):
    if len(words) < 3:
        return None
    name, priority, *steps = words
    if not (is_name(name) and _is_integer(priority) and all([_is_step(step) for step in steps])):
        return None
    return (name, int(priority), tuple([_read_step(step) for step in steps]))


def _read_pause(words):
    if len(words) != 3:
        return None
    name, begin, end = words
    if not (is_name(name) and _is_integer(begin) and _is_integer(end)):
        return None
    return (name, int(begin), int(end))


def _read_job(words):
    if len(words) != 2:
        return None
    time, kind = words
    if not (_is_integer(time) and is_name(kind)):
        return None
    return (int(time), kind)


READERS = {"station": _read_station, "kind": _read_kind, "pause": _read_pause, "job": _read_job}


def _read_row(first, words):
    """Return what stands behind the first word of a line, or None if the line is not understood."""
    if first not in READERS:
        return None
    reader = READERS[first]
    return reader(words)


def _is_step(word):
    # Without a colon the duration is empty, and a second colon stands in it: both are no integers.
    name, _, duration = word.partition(":")
    return is_name(name) and _is_integer(duration)


def _read_step(word):
    name, _, duration = word.partition(":")
    return (name, int(duration))


def _is_integer(word):
    """Tell whether a word is an integer as it stands in a text: short, and without zeros in front."""
    if not 1 <= len(word) <= DIGITS:
        return False
    return all(["0" <= sign <= "9" for sign in word]) and (word == "0" or word[0] != "0")
