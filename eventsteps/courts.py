"""Courts: claims about models, and whether they hold."""

from eventsteps.bounds import bottleneck, job_bound, station_bound
from eventsteps.changes import first_difference
from eventsteps.counts import WORDS, account, mean
from eventsteps.models import station_names
from eventsteps.rings import ring, shows_stuck
from eventsteps.runs import event_run
from eventsteps.sayings import answer
from eventsteps.traces import flaw_of


def about_model(some_model):
    """Return the list of the claims about a model: its trace, its bottleneck's bound and its ring."""
    claims = [("trace", some_model, event_run(some_model))]
    latest = bottleneck(some_model)
    if latest is not None:
        word, which, bound = latest
        claims.append(("bound", some_model, (word, which), bound))
    jobs = ring(some_model)
    if jobs is not None:
        claims.append(("stuck", some_model, jobs))
    return claims


def about_station(some_model, station, window):
    """Return the list of the claims about a station and a window: the means of all four words and the account."""
    events = event_run(some_model)
    means = [(word, mean(some_model, events, word, station, window)) for word in WORDS]
    claims = [("mean", some_model, word, station, window, number) for word, number in means]
    claims.append(("account", some_model, station, window, account(some_model, events, station, window)))
    return claims


def about_saying(some_model, saying):
    """Return the claim that tells the answer to a saying."""
    return ("saying", some_model, saying, answer(some_model, event_run(some_model), saying))


def about_pair(some_model, other):
    """Return the claim that tells where the traces of two models differ."""
    found = first_difference(some_model, other)
    return ("difference", some_model, other, None if found is None else found[0])


def judge(claim):
    """Tell whether a claim holds."""
    word, *parts = claim
    holds = JUDGES[word]
    return holds(*parts)


def judge_all(claims):
    """Return the list of the indices of the claims that do not hold."""
    return [index for index, claim in enumerate(claims) if not judge(claim)]


def _trace_holds(some_model, events):
    return flaw_of(some_model, events) is None


def _mean_holds(some_model, word, station, window, number):
    if not (_is_window(window) and word in WORDS and _is_place_of_count(some_model, station)):
        return False
    return number == mean(some_model, event_run(some_model), word, station, window)


def _account_holds(some_model, station, window, numbers):
    if not (_is_window(window) and station in station_names(some_model)):
        return False
    return numbers == account(some_model, event_run(some_model), station, window)


def _bound_holds(some_model, place, number):
    bounds = [(("station", name), station_bound(some_model, name)) for name in station_names(some_model)]
    bounds.extend([(("job", job), job_bound(some_model, job)) for job in range(len(some_model[3]))])
    # A station without a bound does not have the bound None.
    return number is not None and (place, number) in bounds


def _stuck_holds(some_model, jobs):
    return shows_stuck(some_model, jobs)


def _saying_holds(some_model, saying, told):
    return _is_there(some_model, saying) and told == answer(some_model, event_run(some_model), saying)


def _difference_holds(some_model, other, index):
    found = first_difference(some_model, other)
    if found is None:
        return index is None
    return index == found[0]


JUDGES = {
    "trace": _trace_holds,
    "mean": _mean_holds,
    "account": _account_holds,
    "bound": _bound_holds,
    "stuck": _stuck_holds,
    "saying": _saying_holds,
    "difference": _difference_holds,
}


def _is_window(window):
    begin, end = window
    return 0 <= begin < end


def _is_place_of_count(some_model, station):
    return station is None or station in station_names(some_model)


def _is_there(some_model, told):
    """Tell whether all stations and jobs that a saying or a condition is about are there."""
    word, *parts = told
    if word == "count":
        return _is_place_of_count(some_model, parts[1])
    if word == "job":
        return 0 <= parts[0] < len(some_model[3])
    # All other parts are conditions, except the number of `within`.
    return all([_is_there(some_model, part) for part in parts if isinstance(part, tuple)])
