import copy
import inspect
import unittest

from eventsteps import models
from eventsteps.errors import ModelError
from eventsteps.models import is_paused, model, route_of, station_names

STATIONS = [("a", 1, 1, "first"), ("b", 2, None, "last")]
KINDS = [("x", 0, (("a", 3), ("b", 5))), ("y", 9, (("b", 1),))]

GOOD_NAMES = ("a", "z", "a0", "z9", "abcdefgh", "a1234567", "first")
BAD_NAMES = (
    "", "abcdefghi", "a12345678", "0", "1a", "A", "aB", "Ab", "-", "a-", "-a", "a_b", "_a", "a b", " a", "a ", " ",
    "a\n", "\na", "\n", "a`", "a{", "{", "`", "a/", "a:", "a.",
)


def fault(stations=STATIONS, kinds=KINDS, pauses=(), jobs=()):
    """The `what` and the `place` of the fault of a model, or None."""
    try:
        model(list(stations), list(kinds), list(pauses), list(jobs))
    except ModelError as error:
        return error.what, error.place
    return None


def named_stations(many):
    return [(f"s{number}", 1, None, "first") for number in range(many)]


def named_kinds(many):
    return [(f"k{number}", 0, (("a", 1),)) for number in range(many)]


def spread_pauses(many):
    return [("a", 10 * number, 10 * number + 5) for number in range(many)]


class OrdinaryTest(unittest.TestCase):
    def test_a_model_is_a_tuple_of_four_tuples(self):
        made = model(STATIONS, KINDS, [("a", 0, 5)], [(0, "x")])
        self.assertEqual(made, (tuple(STATIONS), tuple(KINDS), (("a", 0, 5),), ((0, "x"),)))
        self.assertIs(type(made), tuple)
        for part in made:
            self.assertIs(type(part), tuple)
            for row in part:
                self.assertIs(type(row), tuple)

    def test_the_routes_stay_tuples_of_pairs(self):
        made = model(STATIONS, KINDS, [], [])
        self.assertEqual([kind[2] for kind in made[1]], [(("a", 3), ("b", 5)), (("b", 1),)])
        for _, _, route in made[1]:
            self.assertIs(type(route), tuple)

    def test_stations_come_out_ascending(self):
        stations = [("b", 1, None, "last"), ("aa", 4, 40, "priority"), ("c", 2, 2, "first"), ("a1", 1, 7, "first")]
        kinds = [("x", 0, (("b", 1),))]
        self.assertEqual(model(stations, kinds, [], [])[0], (stations[3], stations[1], stations[0], stations[2]))

    def test_kinds_come_out_ascending(self):
        kinds = [("y", 0, (("a", 1),)), ("z", 5, (("b", 1),)), ("x", 9, (("b", 2),))]
        self.assertEqual(model(STATIONS, kinds, [], [])[1], (kinds[2], kinds[0], kinds[1]))

    def test_pauses_come_out_ascending(self):
        pauses = [("b", 0, 3), ("a", 100, 101), ("a", 9, 20), ("b", 50, 60), ("a", 0, 1)]
        in_order = (("a", 0, 1), ("a", 9, 20), ("a", 100, 101), ("b", 0, 3), ("b", 50, 60))
        self.assertEqual(model(STATIONS, KINDS, pauses, [])[2], in_order)

    def test_jobs_come_out_in_the_order_of_their_times(self):
        jobs = [(9, "x"), (10, "y"), (2, "y"), (0, "x")]
        self.assertEqual(model(STATIONS, KINDS, [], jobs)[3], ((0, "x"), (2, "y"), (9, "x"), (10, "y")))

    def test_jobs_of_one_time_stay_in_the_order_of_the_list(self):
        jobs = [(5, "y"), (0, "y"), (5, "x"), (0, "x"), (5, "y")]
        in_order = ((0, "y"), (0, "x"), (5, "y"), (5, "x"), (5, "y"))
        self.assertEqual(model(STATIONS, KINDS, [], jobs)[3], in_order)

    def test_pauses_and_jobs_may_be_empty(self):
        self.assertEqual(model(STATIONS, KINDS, [], [])[2:], ((), ()))

    def test_each_discipline(self):
        for discipline in ("first", "last", "priority"):
            with self.subTest(discipline):
                self.assertIsNone(fault([("a", 1, 1, discipline), ("b", 1, 1, "first")]))

    def test_a_station_and_a_kind_may_have_the_same_name(self):
        self.assertIsNone(fault([("a", 1, 1, "first")], [("a", 0, (("a", 1),))], [("a", 0, 1)], [(0, "a")]))

    def test_a_route_may_come_to_a_station_again(self):
        self.assertIsNone(fault(kinds=[("x", 0, (("a", 1), ("a", 1), ("b", 1), ("a", 1)))]))


class StationFaultTest(unittest.TestCase):
    def check(self, station, what):
        """Expect the fault for a station at each place of a list, or none."""
        others = [("q1", 1, None, "first"), ("q2", 1, None, "first")]
        for place in range(3):
            stations = others[:place] + [station] + others[place:]
            with self.subTest(station=station, place=place):
                expected = None if what is None else (what, place)
                self.assertEqual(fault(stations, [("x", 0, (("q1", 1),))]), expected)

    def test_names(self):
        for name in GOOD_NAMES:
            self.check((name, 1, None, "first"), None)
        for name in BAD_NAMES:
            self.check((name, 1, None, "first"), "wrong name")

    def test_named_twice_is_about_the_later_one(self):
        stations = [("b", 1, 1, "first"), ("a", 1, 1, "first"), ("b", 2, None, "last")]
        self.assertEqual(fault(stations), ("named twice", 2))
        self.assertEqual(fault(stations + [("a", 1, 1, "first")]), ("named twice", 2))
        self.assertEqual(fault(stations[::-1]), ("named twice", 2))
        self.assertEqual(fault([stations[0], stations[0]]), ("named twice", 1))

    def test_servers(self):
        for servers in (1, 2, 3, 4):
            self.check(("a", servers, None, "first"), None)
        for servers in (-1, 0, 5, 6, 40):
            self.check(("a", servers, None, "first"), "wrong servers")

    def test_room(self):
        for servers in (1, 2, 3, 4):
            for room in (servers, servers + 1, 39, 40, None):
                self.check(("a", servers, room, "first"), None)
            for room in (-1, 0, servers - 1, 41, 100):
                self.check(("a", servers, room, "first"), "wrong room")

    def test_discipline(self):
        for discipline in ("", "First", "first ", "firs", "lastfirst", "random", "-", "None", "1"):
            self.check(("a", 1, None, discipline), "wrong discipline")

    def test_number_of_stations(self):
        kinds = [("x", 0, (("s0", 1),))]
        self.assertEqual(fault([], kinds), ("wrong number of stations", 0))
        self.assertIsNone(fault(named_stations(1), kinds))
        self.assertIsNone(fault(named_stations(6), kinds))
        self.assertEqual(fault(named_stations(7), kinds), ("wrong number of stations", 7))
        self.assertEqual(fault(named_stations(9), kinds), ("wrong number of stations", 9))

    def test_which_fault_of_a_station_is_the_first(self):
        ahead = ("a", 1, 1, "first")
        rows = (
            (("A", 0, 0, "none"), "wrong name"),
            (("a", 0, -1, "none"), "named twice"),
            (("b", 0, -1, "none"), "wrong servers"),
            (("b", 5, 4, "none"), "wrong servers"),
            (("b", 2, 1, "none"), "wrong room"),
            (("b", 2, 2, "none"), "wrong discipline"),
        )
        for station, what in rows:
            with self.subTest(station):
                self.assertEqual(fault([ahead, station]), (what, 1))

    def test_a_wrong_name_that_stands_twice_is_a_wrong_name(self):
        self.assertEqual(fault([("a", 1, 1, "first"), ("", 1, 1, "first"), ("", 1, 1, "first")]), ("wrong name", 1))

    def test_the_first_station_with_a_fault_counts(self):
        stations = [("a", 1, 1, "first"), ("b", 1, 1, "none"), ("B", 0, 0, "none")]
        self.assertEqual(fault(stations), ("wrong discipline", 1))
        self.assertEqual(fault([stations[2], stations[0], stations[1]]), ("wrong name", 0))


class KindFaultTest(unittest.TestCase):
    def check(self, kind, what):
        """Expect the fault for a kind at each place of a list, or none."""
        others = [("q1", 0, (("a", 1),)), ("q2", 0, (("b", 1),))]
        for place in range(3):
            kinds = others[:place] + [kind] + others[place:]
            with self.subTest(kind=kind, place=place):
                self.assertEqual(fault(kinds=kinds), None if what is None else (what, place))

    def test_names(self):
        for name in GOOD_NAMES:
            self.check((name, 0, (("a", 1),)), None)
        for name in BAD_NAMES:
            self.check((name, 0, (("a", 1),)), "wrong kind name")

    def test_named_twice_is_about_the_later_one(self):
        kinds = [("y", 0, (("a", 1),)), ("x", 0, (("a", 1),)), ("y", 1, (("b", 2),))]
        self.assertEqual(fault(kinds=kinds), ("kind named twice", 2))
        self.assertEqual(fault(kinds=kinds + [("x", 0, (("a", 1),))]), ("kind named twice", 2))
        self.assertEqual(fault(kinds=[kinds[0], kinds[0]]), ("kind named twice", 1))

    def test_priority(self):
        for priority in (0, 1, 8, 9):
            self.check(("x", priority, (("a", 1),)), None)
        for priority in (-2, -1, 10, 11):
            self.check(("x", priority, (("a", 1),)), "wrong priority")

    def test_number_of_steps(self):
        for many in (1, 2, 5, 6):
            self.check(("x", 0, (("a", 1),) * many), None)
        for many in (0, 7, 8):
            self.check(("x", 0, (("a", 1),) * many), "wrong route")

    def test_durations(self):
        for duration in (1, 2, 99, 100):
            self.check(("x", 0, (("a", duration),)), None)
            self.check(("x", 0, (("a", 1), ("b", duration), ("a", 1))), None)
        for duration in (-1, 0, 101, 102):
            self.check(("x", 0, (("a", duration),)), "wrong route")
            self.check(("x", 0, (("a", duration), ("b", 1))), "wrong route")
            self.check(("x", 0, (("a", 1), ("b", duration), ("a", 1))), "wrong route")
            self.check(("x", 0, (("a", 1),) * 5 + (("b", duration),)), "wrong route")

    def test_a_station_that_is_not_there(self):
        for name in ("c", "aa", "", "A", "x", "ab"):
            self.check(("x", 0, ((name, 1),)), "wrong route")
            self.check(("x", 0, (("a", 1), (name, 1))), "wrong route")
            self.check(("x", 0, ((name, 1), ("a", 1))), "wrong route")

    def test_number_of_kinds(self):
        self.assertEqual(fault(kinds=[]), ("wrong number of kinds", 0))
        self.assertIsNone(fault(kinds=named_kinds(1)))
        self.assertIsNone(fault(kinds=named_kinds(6)))
        self.assertEqual(fault(kinds=named_kinds(7)), ("wrong number of kinds", 7))
        self.assertEqual(fault(kinds=named_kinds(9)), ("wrong number of kinds", 9))

    def test_which_fault_of_a_kind_is_the_first(self):
        ahead = ("x", 0, (("a", 1),))
        rows = (
            (("X", -1, ()), "wrong kind name"),
            (("x", -1, ()), "kind named twice"),
            (("y", 10, ()), "wrong priority"),
            (("y", 9, ()), "wrong route"),
        )
        for kind, what in rows:
            with self.subTest(kind):
                self.assertEqual(fault(kinds=[ahead, kind]), (what, 1))

    def test_the_first_kind_with_a_fault_counts(self):
        kinds = [("x", 0, (("a", 1),)), ("y", 0, ()), ("Y", -1, ())]
        self.assertEqual(fault(kinds=kinds), ("wrong route", 1))
        self.assertEqual(fault(kinds=[kinds[2], kinds[0], kinds[1]]), ("wrong kind name", 0))


class PauseFaultTest(unittest.TestCase):
    def check(self, pause, what):
        """Expect the fault for a pause at each place of a list, or none."""
        others = [("b", 0, 1), ("b", 3, 4)]
        for place in range(3):
            pauses = others[:place] + [pause] + others[place:]
            with self.subTest(pause=pause, place=place):
                self.assertEqual(fault(pauses=pauses), None if what is None else (what, place))

    def test_unknown_station(self):
        for name in ("c", "", "A", "aa", "x", "ab"):
            self.check((name, 0, 1), "unknown station")

    def test_times(self):
        for begin, end in ((0, 1), (0, 10000), (1, 2), (9999, 10000), (500, 700)):
            self.check(("a", begin, end), None)
        for begin, end in ((-1, 1), (-1, 0), (-2, -1), (0, 0), (5, 5), (6, 5), (10000, 10000),
                           (0, 10001), (9999, 10001), (10000, 10001), (10001, 10002)):
            self.check(("a", begin, end), "wrong pause")

    def test_pauses_of_one_station_that_meet(self):
        for first, second in (((0, 5), (5, 9)), ((0, 5), (4, 9)), ((0, 5), (0, 5)), ((0, 9), (3, 5)), ((0, 5), (0, 3)),
                              ((0, 5), (3, 5)), ((0, 1), (1, 2)), ((0, 10000), (9999, 10000))):
            for one, other in ((first, second), (second, first)):
                with self.subTest(one=one, other=other):
                    self.assertEqual(fault(pauses=[("a",) + one, ("a",) + other]), ("pauses meet", 1))
                    apart = [("a",) + one, ("b",) + one, ("a",) + other]
                    self.assertEqual(fault(pauses=apart), ("pauses meet", 2))

    def test_pauses_of_one_station_that_stand_apart(self):
        for first, second in (((0, 5), (6, 9)), ((0, 1), (2, 3)), ((0, 1), (9999, 10000))):
            for one, other in ((first, second), (second, first)):
                with self.subTest(one=one, other=other):
                    self.assertIsNone(fault(pauses=[("a",) + one, ("a",) + other]))

    def test_a_pause_between_two_others(self):
        others = [("a", 0, 5), ("a", 8, 9)]
        self.assertIsNone(fault(pauses=others + [("a", 6, 7)]))
        self.assertEqual(fault(pauses=others + [("a", 6, 8)]), ("pauses meet", 2))
        self.assertEqual(fault(pauses=others + [("a", 5, 7)]), ("pauses meet", 2))

    def test_pauses_of_two_stations_at_the_same_times(self):
        self.assertIsNone(fault(pauses=[("a", 0, 5), ("b", 0, 5)]))
        self.assertIsNone(fault(pauses=[("b", 4, 9), ("a", 0, 5)]))
        self.assertIsNone(fault(pauses=[("a", 0, 5), ("b", 5, 9)]))

    def test_number_of_pauses(self):
        self.assertIsNone(fault(pauses=spread_pauses(8)))
        self.assertEqual(fault(pauses=spread_pauses(9)), ("too many pauses", 9))
        self.assertEqual(fault(pauses=spread_pauses(11)), ("too many pauses", 11))

    def test_the_number_is_about_all_stations_together(self):
        pauses = spread_pauses(8) + [("b", 0, 1)]
        self.assertEqual(fault(pauses=pauses), ("too many pauses", 9))

    def test_which_fault_of_a_pause_is_the_first(self):
        ahead = ("a", 0, 5)
        rows = (
            (("c", 3, 3), "unknown station"),
            (("a", 3, 3), "wrong pause"),
            (("a", -1, 3), "wrong pause"),
            (("a", 3, 10001), "wrong pause"),
            (("a", 3, 4), "pauses meet"),
        )
        for pause, what in rows:
            with self.subTest(pause):
                self.assertEqual(fault(pauses=[ahead, pause]), (what, 1))

    def test_the_first_pause_with_a_fault_counts(self):
        pauses = [("a", 0, 5), ("a", 5, 6), ("c", 0, 1), ("a", 9, 9)]
        self.assertEqual(fault(pauses=pauses), ("pauses meet", 1))
        self.assertEqual(fault(pauses=pauses[2:] + pauses[:2]), ("unknown station", 0))
        self.assertEqual(fault(pauses=[pauses[0], pauses[3], pauses[1]]), ("wrong pause", 1))


class JobFaultTest(unittest.TestCase):
    def check(self, job, what):
        """Expect the fault for a job at each place of a list, or none."""
        others = [(7, "x"), (3, "y")]
        for place in range(3):
            jobs = others[:place] + [job] + others[place:]
            with self.subTest(job=job, place=place):
                self.assertEqual(fault(jobs=jobs), None if what is None else (what, place))

    def test_times(self):
        for time in (0, 1, 9999, 10000):
            self.check((time, "x"), None)
        for time in (-2, -1, 10001, 20000):
            self.check((time, "x"), "wrong time")

    def test_unknown_kind(self):
        for kind in ("z", "", "X", "a", "xx", "xy"):
            self.check((0, kind), "unknown kind")

    def test_number_of_jobs(self):
        self.assertIsNone(fault(jobs=[(0, "x")] * 40))
        self.assertEqual(fault(jobs=[(0, "x")] * 41), ("too many jobs", 41))
        self.assertEqual(fault(jobs=[(0, "x")] * 43), ("too many jobs", 43))

    def test_which_fault_of_a_job_is_the_first(self):
        self.assertEqual(fault(jobs=[(0, "x"), (-1, "z")]), ("wrong time", 1))
        self.assertEqual(fault(jobs=[(0, "x"), (10001, "z")]), ("wrong time", 1))

    def test_the_first_job_with_a_fault_counts(self):
        self.assertEqual(fault(jobs=[(9, "x"), (5, "z"), (-1, "x")]), ("unknown kind", 1))
        self.assertEqual(fault(jobs=[(9, "x"), (10001, "x"), (0, "z")]), ("wrong time", 1))


class FirstFaultTest(unittest.TestCase):
    # For each list, in order: it with a fault in an entry, it with a wrong number, and the faults of both.
    STAGES = (
        (
            "stations",
            STATIONS + [("c", 1, 1, "none")],
            STATIONS + named_stations(5),
            ("wrong discipline", 2),
            ("wrong number of stations", 7),
        ),
        ("kinds", KINDS + [("z", 0, ())], KINDS + named_kinds(5), ("wrong route", 2), ("wrong number of kinds", 7)),
        ("pauses", [("a", 0, 1), ("a", 1, 2)], spread_pauses(9), ("pauses meet", 1), ("too many pauses", 9)),
        ("jobs", [(0, "x"), (0, "z")], [(0, "x")] * 41, ("unknown kind", 1), ("too many jobs", 41)),
    )

    def test_the_lists_go_in_order(self):
        for at, (name, wrong_entry, wrong_number, entry_fault, number_fault) in enumerate(self.STAGES):
            for later, later_entry, later_number, _, _ in self.STAGES[at + 1:]:
                for late in (later_entry, later_number):
                    with self.subTest(first=name, later=later):
                        self.assertEqual(fault(**{name: wrong_entry, later: late}), entry_fault)
                        self.assertEqual(fault(**{name: wrong_number, later: late}), number_fault)

    def test_all_lists_with_faults(self):
        entries = {name: wrong_entry for name, wrong_entry, _, _, _ in self.STAGES}
        self.assertEqual(fault(**entries), ("wrong discipline", 2))
        self.assertEqual(fault([], [], [("a", 0, 0)], [(-1, "x")]), ("wrong number of stations", 0))
        self.assertEqual(fault(STATIONS, [], [("a", 0, 0)], [(-1, "x")]), ("wrong number of kinds", 0))

    def test_an_entry_comes_ahead_of_a_wrong_number(self):
        kinds = [("x", 0, (("s0", 1),))]
        for place in (0, 3, 6):
            stations = named_stations(7)
            stations[place] = ("A", 1, None, "first")
            self.assertEqual(fault(stations, kinds), ("wrong name", place))
        for place in (0, 3, 6):
            many = named_kinds(7)
            many[place] = ("k", 10, (("a", 1),))
            self.assertEqual(fault(kinds=many), ("wrong priority", place))
        for place in (0, 4, 8):
            pauses = spread_pauses(9)
            pauses[place] = ("c", 0, 1)
            self.assertEqual(fault(pauses=pauses), ("unknown station", place))
        for place in (0, 20, 40):
            jobs = [(0, "x")] * 41
            jobs[place] = (10001, "x")
            self.assertEqual(fault(jobs=jobs), ("wrong time", place))

    def test_places_are_those_in_the_lists_as_they_were_passed(self):
        stations = [("c", 1, 1, "first"), ("b", 1, 1, "first"), ("a", 5, 5, "first")]
        self.assertEqual(fault(stations, [("x", 0, (("c", 1),))]), ("wrong servers", 2))
        kinds = [("z", 0, (("a", 1),)), ("y", 0, (("a", 1),)), ("x", 10, (("a", 1),))]
        self.assertEqual(fault(kinds=kinds), ("wrong priority", 2))
        self.assertEqual(fault(pauses=[("b", 0, 1), ("a", 9, 12), ("a", 0, 9)]), ("pauses meet", 2))
        self.assertEqual(fault(jobs=[(9, "x"), (8, "x"), (0, "z")]), ("unknown kind", 2))

    def test_kinds_pauses_and_jobs_may_name_what_stands_later_in_its_list(self):
        made = model(STATIONS[::-1], KINDS[::-1], [("a", 0, 1)], [(0, "x")])
        self.assertEqual(made, model(STATIONS, KINDS, [("a", 0, 1)], [(0, "x")]))


class AskingTest(unittest.TestCase):
    def setUp(self):
        pauses = [("b", 20, 21), ("b", 3, 8), ("c", 0, 10), ("b", 9, 10)]
        stations = [("c", 1, None, "first"), ("b", 1, None, "first"), ("a", 1, None, "first")]
        kinds = [("y", 1, (("c", 4), ("a", 100))), ("x", 9, (("b", 2),)), ("z", 0, (("a", 1),))]
        self.model = model(stations, kinds, pauses, [(5, "x"), (0, "y"), (5, "z"), (5, "y"), (1, "x")])

    def test_station_names(self):
        self.assertEqual(station_names(self.model), ["a", "b", "c"])
        self.assertEqual(station_names(model([("q7", 1, 1, "last")], [("x", 0, (("q7", 1),))], [], [])), ["q7"])
        self.assertIs(type(station_names(self.model)), list)

    def test_route_of_each_job(self):
        routes = {"x": (("b", 2),), "y": (("c", 4), ("a", 100)), "z": (("a", 1),)}
        for job, kind in enumerate(["y", "x", "x", "z", "y"]):
            with self.subTest(job):
                self.assertEqual(route_of(self.model, job), routes[kind])
                self.assertIs(type(route_of(self.model, job)), tuple)

    def test_is_paused_at_the_edges_of_each_pause(self):
        for begin, end in ((3, 8), (9, 10), (20, 21)):
            rows = ((begin - 1, False), (begin, True), (end - 1, True), (end, False))
            for time, paused in rows:
                with self.subTest(begin=begin, end=end, time=time):
                    self.assertIs(is_paused(self.model, "b", time), paused)

    def test_is_paused_at_each_time(self):
        paused = {"a": [], "b": [3, 4, 5, 6, 7, 9, 20], "c": list(range(10))}
        for name, times in paused.items():
            with self.subTest(name):
                self.assertEqual([time for time in range(30) if is_paused(self.model, name, time)], times)

    def test_is_paused_answers_with_truth_values(self):
        self.assertIs(is_paused(self.model, "a", 3), False)
        self.assertIs(is_paused(model(STATIONS, KINDS, [], []), "a", 0), False)
        self.assertIs(is_paused(self.model, "c", 0), True)

    def test_the_last_time_of_a_pause(self):
        made = model(STATIONS, KINDS, [("a", 9999, 10000)], [])
        self.assertEqual([is_paused(made, "a", time) for time in (9998, 9999, 10000, 10001)], [False, True, False, False])


class NothingIsModifiedTest(unittest.TestCase):
    def test_model_leaves_its_arguments_alone(self):
        lists = (
            STATIONS[::-1],
            KINDS[::-1],
            [("b", 3, 4), ("a", 5, 6)],
            [(9, "y"), (3, "x"), (9, "x")],
        )
        before = copy.deepcopy(lists)
        model(*lists)
        self.assertEqual(lists, before)

    def test_model_leaves_its_arguments_alone_where_it_finds_a_fault(self):
        lists = (STATIONS[::-1], KINDS[::-1], [("b", 3, 4), ("a", 5, 6)], [(9, "y"), (3, "x"), (9, "z")])
        before = copy.deepcopy(lists)
        with self.assertRaises(ModelError):
            model(*lists)
        self.assertEqual(lists, before)

    def test_modifying_the_lists_later_does_not_change_the_model(self):
        lists = (list(STATIONS), list(KINDS), [("a", 0, 5)], [(0, "x")])
        made = model(*lists)
        expected = (tuple(STATIONS), tuple(KINDS), (("a", 0, 5),), ((0, "x"),))
        for part in lists:
            part.clear()
        self.assertEqual(made, expected)
        self.assertEqual(station_names(made), ["a", "b"])

    def test_the_list_of_names_is_new_each_time(self):
        made = model(STATIONS, KINDS, [], [(0, "x")])
        names = station_names(made)
        names.append("q")
        names[0] = "r"
        self.assertEqual(station_names(made), ["a", "b"])
        self.assertEqual(made, model(STATIONS, KINDS, [], [(0, "x")]))

    def test_asking_does_not_change_the_model(self):
        made = model(STATIONS, KINDS, [("a", 0, 5)], [(0, "x")])
        before = copy.deepcopy(made)
        station_names(made)
        route_of(made, 0)
        is_paused(made, "a", 3)
        self.assertEqual(made, before)

    def test_an_error_does_not_change_later_models(self):
        for _ in range(2):
            self.assertEqual(fault(jobs=[(0, "z")]), ("unknown kind", 0))
            self.assertIsNone(fault(jobs=[(0, "x")]))


class InterfaceTest(unittest.TestCase):
    def test_names_and_arguments(self):
        arguments = {
            "model": ["stations", "kinds", "pauses", "jobs"],
            "station_names": ["some_model"],
            "route_of": ["some_model", "job"],
            "is_paused": ["some_model", "name", "time"],
        }
        for name, expected in arguments.items():
            with self.subTest(name):
                function = getattr(models, name)
                self.assertEqual(list(inspect.signature(function).parameters), expected)
                self.assertEqual(function.__module__, models.__name__)


if __name__ == "__main__":
    unittest.main()
