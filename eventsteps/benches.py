"""Benches: models that get longer while their time goes on, and deeds that can be taken back."""

from eventsteps.errors import BenchError
from eventsteps.limits import JOBS, KEPT, NOW, PAUSES, TIME
from eventsteps.models import is_name, model, pause_fault, station_names
from eventsteps.runs import run_until
from eventsteps.states import first_state


class Bench:
    """A model, a time that is its now, and what was kept of both under names."""

    def __init__(self, stations, kinds):
        # Each deed that can be taken back, with the model, the now and what was kept ahead of it.
        self._done = []
        self._put(model(stations, kinds, [], []), 0, {})

    @property
    def model(self):
        """The model as it is by now."""
        return self._model

    @property
    def now(self):
        """The time up to which the model has been run."""
        return self._now

    @property
    def log(self):
        """The list of the deeds that were done and not taken back."""
        return [deed for deed, _, _, _ in self._done]

    @property
    def trace(self):
        """The list of the events ahead of the now."""
        return list(self._events)

    @property
    def state(self):
        """The state at the now."""
        return self._state

    @property
    def kept(self):
        """The list of the names under which something is kept, ascending."""
        return sorted(self._kept)

    def send(self, time, kind):
        """Add a job behind the others."""
        _refuse(_send_fault(self._model, self._now, time, kind))
        stations, kinds, pauses, jobs = self._model
        self._do(("send", time, kind), (stations, kinds, pauses, (*jobs, (time, kind))), self._now, self._kept)

    def pause(self, name, begin, end):
        """Add a pause."""
        _refuse(_pause_fault(self._model, self._now, (name, begin, end)))
        stations, kinds, pauses, jobs = self._model
        more = tuple(sorted([*pauses, (name, begin, end)]))
        self._do(("pause", name, begin, end), (stations, kinds, more, jobs), self._now, self._kept)

    def go(self, time):
        """Set the now to a later time."""
        _refuse(_go_fault(self._now, time))
        self._do(("go", time), self._model, time, self._kept)

    def keep(self, name):
        """Keep the model and the now under a name."""
        _refuse(_keep_fault(self._kept, name))
        self._do(("keep", name), self._model, self._now, {**self._kept, name: (self._model, self._now)})

    def back(self, name):
        """Bring the model and the now back that were kept under a name."""
        if name not in self._kept:
            raise BenchError("unknown name")
        some_model, now = self._kept[name]
        self._do(("back", name), some_model, now, self._kept)

    def undo(self):
        """Take back the last deed and return its name, or return False if there is none."""
        if not self._done:
            return False
        deed, some_model, now, kept = self._done.pop()
        self._put(some_model, now, kept)
        return deed[0]

    def branch(self):
        """Return a new bench that is like this one, also in what can be taken back."""
        stations, kinds, _, _ = self._model
        other = Bench(list(stations), list(kinds))
        other._done = list(self._done)
        other._put(self._model, self._now, self._kept)
        return other

    def __len__(self):
        return len(self._events)

    def __iter__(self):
        return iter(self._events)

    def __eq__(self, other):
        if not isinstance(other, Bench):
            return NotImplemented
        return (self._model, self._now, self._kept) == (other._model, other._now, other._kept)

    def _do(self, deed, some_model, now, kept):
        """Do a deed, which makes these of the model, the now and what is kept."""
        self._done.append((deed, self._model, self._now, self._kept))
        self._put(some_model, now, kept)

    def _put(self, some_model, now, kept):
        """Set the model, the now and what is kept; these values are never modified, but replaced."""
        self._model = some_model
        self._now = now
        self._kept = kept
        self._events, self._state = run_until(some_model, first_state(some_model), now)


def replayed(stations, kinds, log):
    """Return a new bench on which the deeds of a log are done."""
    bench = Bench(stations, kinds)
    deeds = {"send": bench.send, "pause": bench.pause, "go": bench.go, "keep": bench.keep, "back": bench.back}
    for word, *values in log:
        deed = deeds[word]
        deed(*values)
    return bench


def _refuse(fault):
    """Raise BenchError for the fault of a deed, unless it has none."""
    if fault is not None:
        raise BenchError(fault)


def _send_fault(some_model, now, time, kind):
    """Return what is wrong with sending a job, or None."""
    _, kinds, _, jobs = some_model
    if time < now:
        return "past"
    if jobs and time < jobs[-1][0]:
        return "order"
    if time > TIME:
        return "late"
    if kind not in [name for name, _, _ in kinds]:
        return "unknown kind"
    if len(jobs) >= JOBS:
        return "full"
    return None


def _pause_fault(some_model, now, pause):
    """Return what is wrong with adding a pause, or None."""
    names = station_names(some_model)
    name, begin, _ = pause
    if name in names and begin < now:
        return "past"
    fault = pause_fault(pause, some_model[2], names)
    if fault is None and len(some_model[2]) >= PAUSES:
        return "full"
    return fault


def _go_fault(now, time):
    """Return what is wrong with going to a time, or None."""
    if time <= now:
        return "past"
    if time > NOW:
        return "late"
    return None


def _keep_fault(kept, name):
    """Return what is wrong with keeping something under a name, or None."""
    if not is_name(name):
        return "wrong name"
    if name not in kept and len(kept) >= KEPT:
        return "full"
    return None
