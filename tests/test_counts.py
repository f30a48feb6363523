import copy
import fractions
import inspect
import math
import unittest

from eventsteps import counts
from eventsteps.counts import account, flow, integral, mean, use, value_at
from eventsteps.runs import event_run
from eventsteps.traces import stays
from reference import events_of, simple, slow_places, slow_trace, slow_value, some_model

WORDS = ("there", "waiting", "served", "ready")
EXAMPLE = simple(["a 1 1", "b 1 1"], ["x 0 a:3 b:5"], "0 x 3 x 4 x")
EMPTY = simple(["a 1 1", "b 2 -"], ["x 0 a:3 b:5"], "", [("a", 2, 5)])
# Two servers at a; job 0 comes to a again, job 1 stays ready at a for a while, and job 3 waits.
SERVERS = simple(["a 2 -", "b 1 1"], ["p 0 a:2 a:4", "q 0 a:3 b:1", "r 0 b:9"], "0 p 0 q 1 r 2 q")
SERVERS_TRACE = events_of("""
    0 come 0 a
    0 come 1 a
    0 begin 0 a
    0 begin 1 a
    1 come 2 b
    1 begin 2 b
    2 end 0 a
    2 move 0 a
    2 begin 0 a
    2 come 3 a
    3 end 1 a
    3 block 1 a
    6 end 0 a
    6 leave 0 a
    6 begin 3 a
    9 end 3 a
    9 block 3 a
    10 end 2 b
    10 leave 2 b
    10 move 1 b
    10 begin 1 b
    11 end 1 b
    11 leave 1 b
    11 move 3 b
    11 begin 3 b
    12 end 3 b
    12 leave 3 b
""")
# Both jobs are stuck from 3 on; one more waits behind them from 5 on.
STUCK = simple(["a 1 2", "b 1 1"], ["p 0 a:2 b:1", "q 0 b:3 a:1", "r 0 a:1"], "0 p 0 q 1 r")


def last_time_of(events):
    return events[-1][0] if events else 0


def stations_and_none(made):
    return [None] + [name for name, _, _, _ in made[0]]


class ValueTest(unittest.TestCase):
    def check(self, made, rows, last):
        """Expect values from given times on, one for each of the four words, at each time up to the last one."""
        trace = event_run(made)
        for station, changes in rows.items():
            expected = None
            for time in range(last + 1):
                expected = changes.get(time, expected)
                with self.subTest(station=station, time=time):
                    found = "".join(str(value_at(made, trace, word, station, time)) for word in WORDS)
                    self.assertEqual(found, expected)

    def test_the_example_at_each_time(self):
        self.check(EXAMPLE, {
            "a": {0: "1010", 6: "1001", 8: "0000"},
            "b": {0: "0000", 3: "1010", 13: "0000"},
            None: {0: "1010", 3: "2020", 6: "2011", 8: "1010", 13: "0000"},
        }, 20)

    def test_several_servers_and_jobs_that_wait(self):
        self.assertEqual(event_run(SERVERS), SERVERS_TRACE)
        self.check(SERVERS, {
            "a": {0: "2020", 2: "3120", 3: "3111", 6: "2011", 9: "2002", 10: "1001", 11: "0000"},
            "b": {0: "0000", 1: "1010", 12: "0000"},
            None: {0: "2020", 1: "3030", 2: "4130", 3: "4121", 6: "3021", 9: "3012", 10: "2011", 11: "1010", 12: "0000"},
        }, 20)

    def test_stuck_jobs_stay_there_for_ever(self):
        self.check(STUCK, {
            "a": {0: "1010", 1: "2110", 2: "2101"},
            "b": {0: "1010", 3: "1001"},
            None: {0: "2020", 1: "3120", 2: "3111", 3: "3102"},
        }, 30)
        self.assertEqual(value_at(STUCK, event_run(STUCK), "there", None, 10 ** 6), 3)

    def test_a_pause(self):
        made = simple(["a 1 -"], ["x 0 a:2"], "1 x 4 x", [("a", 0, 6)])
        self.check(made, {"a": {0: "0000", 1: "1100", 4: "2200", 6: "2110", 8: "1010", 10: "0000"}}, 15)

    def test_what_is_counted_is_counted_behind_all_events_of_its_time(self):
        made = simple(["a 1 1", "b 1 1", "c 1 1"], ["x 0 a:1 b:1 c:1"], "3 x 4 x 4 x")
        self.check(made, {"a": {0: "0000", 3: "1010", 5: "0000"}, "b": {0: "0000", 4: "1010", 6: "0000"},
                          "c": {0: "0000", 5: "1010", 7: "0000"}}, 10)

    def test_jobs_that_have_left_or_were_lost_are_not_there(self):
        made = simple(["a 1 1"], ["x 0 a:5"], "0 x 1 x 2 x 5 x")
        self.check(made, {"a": {0: "1010", 10: "0000"}, None: {0: "1010", 10: "0000"}}, 12)

    def test_without_jobs(self):
        self.check(EMPTY, {"a": {0: "0000"}, "b": {0: "0000"}, None: {0: "0000"}}, 10)

    def test_far_behind_the_last_event(self):
        trace = event_run(EXAMPLE)
        for word in WORDS:
            for station in (None, "a", "b"):
                for time in (14, 100, 20000, 10 ** 9):
                    self.assertEqual(value_at(EXAMPLE, trace, word, station, time), 0)

    def test_each_time_of_many_models(self):
        for number in range(80):
            made = some_model(number)
            trace = slow_trace(made)
            rows = slow_places(made, last_time_of(trace) + 2)
            for time in range(0, len(rows), 2 if number > 20 else 1):
                for word in WORDS:
                    for station in stations_and_none(made):
                        self.assertEqual(value_at(made, trace, word, station, time),
                                         slow_value(rows[time], word, station), (number, word, station, time))

    def test_there_are_those_that_wait_are_served_or_are_ready(self):
        trace = event_run(SERVERS)
        for station in (None, "a", "b"):
            for time in range(15):
                there, *others = [value_at(SERVERS, trace, word, station, time) for word in WORDS]
                self.assertEqual(there, sum(others))

    def test_the_kind_of_value(self):
        self.assertIs(type(value_at(EXAMPLE, event_run(EXAMPLE), "there", "a", 0)), int)
        self.assertIs(type(value_at(EMPTY, [], "there", "a", 0)), int)


class IntegralTest(unittest.TestCase):
    def check(self, made, rows):
        """Expect integrals, by the word, the station and the window."""
        trace = event_run(made)
        for (word, station, begin, end), expected in rows.items():
            with self.subTest(word=word, station=station, begin=begin, end=end):
                self.assertEqual(integral(made, trace, word, station, (begin, end)), expected)

    def test_the_example(self):
        self.check(EXAMPLE, {
            ("there", "a", 0, 10): 8,
            ("served", "a", 0, 10): 6,
            ("ready", "a", 0, 10): 2,
            ("waiting", "a", 0, 10): 0,
            ("there", "b", 0, 10): 7,
            ("there", "b", 0, 13): 10,
            ("there", "b", 0, 14): 10,
            ("there", None, 0, 10): 15,
            ("there", None, 0, 100): 18,
            ("served", None, 0, 100): 16,
            ("ready", None, 0, 100): 2,
        })

    def test_windows_of_length_1(self):
        self.check(EXAMPLE, {("there", None, time, time + 1): int(many) for time, many in enumerate("1112222211111000")})
        self.check(EXAMPLE, {("ready", "a", time, time + 1): int(many) for time, many in enumerate("0000001100")})

    def test_windows_that_begin_and_end_at_events(self):
        self.check(EXAMPLE, {
            ("there", "a", 3, 6): 3,
            ("there", "a", 6, 8): 2,
            ("there", "a", 8, 13): 0,
            ("there", None, 3, 8): 10,
            ("served", "a", 3, 8): 3,
            ("ready", "a", 3, 8): 2,
            ("there", "b", 0, 3): 0,
        })

    def test_windows_between_events(self):
        self.check(EXAMPLE, {
            ("there", None, 9, 12): 3,
            ("there", None, 1, 2): 1,
            ("there", None, 4, 6): 4,
            ("there", "a", 9, 12): 0,
            ("ready", "a", 5, 7): 1,
            ("served", "a", 5, 7): 1,
            ("there", None, 7, 14): 7,
        })

    def test_windows_behind_the_last_event(self):
        self.check(EXAMPLE, {("there", None, 13, 14): 0, ("there", None, 20, 100): 0, ("there", None, 12, 100): 1})
        self.check(STUCK, {
            ("there", None, 3, 4): 3,
            ("there", None, 50, 150): 300,
            ("waiting", None, 50, 150): 100,
            ("ready", "a", 50, 150): 100,
            ("ready", None, 50, 150): 200,
            ("served", None, 50, 150): 0,
            ("ready", "b", 0, 10000): 9997,
            ("ready", "b", 9999, 20000): 10001,
        })

    def test_windows_ahead_of_all_events(self):
        made = simple(["a 1 1"], ["x 0 a:3"], "7 x")
        self.check(made, {("there", "a", 0, 7): 0, ("there", "a", 0, 8): 1, ("there", "a", 3, 12): 3, ("served", None, 8, 9): 1})

    def test_without_jobs(self):
        self.check(EMPTY, {(word, station, 0, 50): 0 for word in WORDS for station in (None, "a", "b")})

    def test_it_is_the_sum_of_the_values(self):
        for number in range(60):
            made = some_model(number)
            trace = slow_trace(made)
            rows = slow_places(made, last_time_of(trace) + 4)
            for begin, end in ((0, 1), (0, len(rows)), (3, 4), (2, 9), (len(rows) - 3, len(rows)), (7, len(rows) // 2 + 8)):
                expected_rows = (rows + rows[-1:] * 20)[begin:end]
                for word in WORDS:
                    for station in stations_and_none(made):
                        expected = sum(slow_value(places, word, station) for places in expected_rows)
                        with self.subTest(number, word=word, station=station, begin=begin, end=end):
                            self.assertEqual(integral(made, trace, word, station, (begin, end)), expected)

    def test_windows_add_up(self):
        for made in (EXAMPLE, SERVERS, STUCK, EMPTY):
            trace = event_run(made)
            for word in WORDS:
                for station in (None, "a", "b"):
                    for begin, middle, end in ((0, 3, 8), (0, 1, 2), (2, 7, 20), (5, 6, 7), (0, 13, 14), (20, 30, 50)):
                        both = (integral(made, trace, word, station, (begin, middle))
                                + integral(made, trace, word, station, (middle, end)))
                        self.assertEqual(integral(made, trace, word, station, (begin, end)), both)

    def test_the_kind_of_value(self):
        self.assertIs(type(integral(EXAMPLE, event_run(EXAMPLE), "there", "a", (0, 5))), int)


class MeanTest(unittest.TestCase):
    def check(self, made, rows):
        """Expect means, by the word, the station and the window."""
        trace = event_run(made)
        for (word, station, begin, end), expected in rows.items():
            with self.subTest(word=word, station=station, begin=begin, end=end):
                self.assertEqual(mean(made, trace, word, station, (begin, end)), expected)

    def test_the_example_of_the_interface(self):
        self.check(EXAMPLE, {("there", "a", 0, 10): (4, 5)})

    def test_integers(self):
        self.check(EXAMPLE, {
            ("there", "a", 0, 8): (1, 1),
            ("there", None, 3, 8): (2, 1),
            ("there", None, 0, 1): (1, 1),
            ("ready", "a", 6, 8): (1, 1),
        })
        self.check(STUCK, {("there", None, 5, 100): (3, 1), ("ready", None, 5, 100): (2, 1)})

    def test_0(self):
        self.check(EXAMPLE, {
            ("waiting", "a", 0, 10): (0, 1),
            ("there", None, 13, 100): (0, 1),
            ("there", "b", 0, 3): (0, 1),
            ("there", "b", 2, 3): (0, 1),
        })
        self.check(EMPTY, {(word, station, 4, 50): (0, 1) for word in WORDS for station in (None, "a", "b")})

    def test_in_lowest_terms(self):
        self.check(EXAMPLE, {
            ("there", None, 0, 10): (3, 2),
            ("there", None, 0, 100): (9, 50),
            ("served", "a", 0, 10): (3, 5),
            ("ready", "a", 0, 10): (1, 5),
            ("there", "b", 0, 10): (7, 10),
            ("served", "a", 0, 9): (2, 3),
            ("there", None, 0, 9): (14, 9),
            ("ready", "a", 0, 7): (1, 7),
        })

    def test_what_is_no_window_raises_no_error(self):
        self.check(EXAMPLE, {("there", "a", 5, 5): (0, 1), ("there", None, 9, 5): (0, 1), ("there", "a", -2, 2): (1, 2)})

    def test_many_models(self):
        for number in range(40):
            made = some_model(number)
            trace = slow_trace(made)
            for window in ((0, 1), (0, 12), (5, 23), (8, 68), (1000, 1100)):
                for word in WORDS:
                    for station in stations_and_none(made):
                        top, bottom = mean(made, trace, word, station, window)
                        total = integral(made, trace, word, station, window)
                        self.assertEqual(fractions.Fraction(top, bottom), fractions.Fraction(total, window[1] - window[0]))
                        self.assertGreaterEqual(bottom, 1)
                        self.assertEqual(math.gcd(top, bottom), 1)

    def test_the_kinds_of_values(self):
        found = mean(EXAMPLE, event_run(EXAMPLE), "there", "a", (0, 10))
        self.assertEqual([type(found), *map(type, found)], [tuple, int, int])


class UseTest(unittest.TestCase):
    def check(self, made, rows):
        trace = event_run(made)
        for (station, begin, end), expected in rows.items():
            with self.subTest(station=station, begin=begin, end=end):
                self.assertEqual(use(made, trace, station, (begin, end)), expected)

    def test_one_server(self):
        self.check(EXAMPLE, {
            ("a", 0, 10): (4, 5),
            ("a", 0, 8): (1, 1),
            ("a", 6, 8): (1, 1),
            ("a", 5, 9): (3, 4),
            ("a", 8, 20): (0, 1),
            ("b", 0, 3): (0, 1),
            ("b", 0, 10): (7, 10),
            ("b", 0, 20): (1, 2),
        })

    def test_several_servers_and_ready_jobs_that_hold_them(self):
        self.check(SERVERS, {
            ("a", 0, 2): (1, 1),
            ("a", 2, 3): (1, 1),
            ("a", 3, 6): (1, 1),
            ("a", 9, 10): (1, 1),
            ("a", 0, 10): (1, 1),
            ("a", 10, 11): (1, 2),
            ("a", 0, 12): (7, 8),
            ("a", 11, 12): (0, 1),
            ("b", 0, 12): (11, 12),
        })

    def test_jobs_that_wait_hold_no_server(self):
        made = simple(["a 3 -"], ["x 0 a:2"], "0 x 0 x 0 x 0 x", [("a", 0, 5)])
        self.check(made, {("a", 0, 5): (0, 1), ("a", 5, 7): (1, 1), ("a", 7, 9): (1, 3), ("a", 0, 7): (2, 7), ("a", 0, 9): (8, 27)})

    def test_stuck_jobs_hold_their_servers_for_ever(self):
        self.check(STUCK, {("a", 0, 100): (1, 1), ("b", 10, 1000): (1, 1)})

    def test_without_jobs(self):
        self.check(EMPTY, {("a", 0, 10): (0, 1), ("b", 3, 4): (0, 1)})

    def test_many_models(self):
        for number in range(60):
            made = some_model(number)
            trace = slow_trace(made)
            rows = slow_places(made, 40)
            for begin, end in ((0, 1), (0, 12), (5, 23), (8, 41)):
                for name, servers, _, _ in made[0]:
                    top, bottom = use(made, trace, name, (begin, end))
                    held = sum(slow_value(places, word, name) for places in rows[begin:end] for word in ("served", "ready"))
                    self.assertEqual(fractions.Fraction(top, bottom), fractions.Fraction(held, servers * (end - begin)))
                    self.assertEqual(math.gcd(top, bottom), 1)
                    self.assertTrue(0 <= top <= bottom)

    def test_the_kinds_of_values(self):
        found = use(EXAMPLE, event_run(EXAMPLE), "a", (0, 10))
        self.assertEqual([type(found), *map(type, found)], [tuple, int, int])


class FlowTest(unittest.TestCase):
    def check(self, made, rows):
        trace = event_run(made)
        for (station, begin, end), expected in rows.items():
            with self.subTest(station=station, begin=begin, end=end):
                self.assertEqual(flow(trace, station, (begin, end)), expected)

    def test_stays_that_end_at_begin_count_and_those_that_end_at_end_do_not(self):
        # The jobs go on from a at 3 and 8, and from b at 8 and 13.
        self.check(EXAMPLE, {
            ("a", 3, 8): 1,
            ("a", 3, 4): 1,
            ("a", 2, 3): 0,
            ("a", 4, 8): 0,
            ("a", 4, 9): 1,
            ("a", 8, 9): 1,
            ("a", 9, 100): 0,
            ("a", 0, 100): 2,
            ("b", 0, 8): 0,
            ("b", 8, 13): 1,
            ("b", 8, 14): 2,
            ("b", 13, 14): 1,
            ("b", 14, 20): 0,
        })

    def test_it_counts_when_jobs_go_on_and_not_when_services_end(self):
        self.check(EXAMPLE, {("a", 6, 7): 0, ("a", 7, 8): 0})

    def test_jobs_that_come_to_the_same_station_again(self):
        # Job 0 goes on from a at 2 and 6; the others do at 10 and 11.
        self.check(SERVERS, {("a", 0, 3): 1, ("a", 2, 6): 1, ("a", 2, 7): 2, ("a", 6, 11): 2, ("a", 0, 12): 4, ("b", 0, 13): 3})
        made = simple(["a 1 -"], ["x 0 a:1 a:1 a:1"], "0 x")
        self.check(made, {("a", 0, 4): 3, ("a", 1, 3): 2, ("a", 3, 4): 1})

    def test_jobs_that_never_go_on(self):
        self.check(STUCK, {("a", 0, 10000): 0, ("b", 0, 10000): 0})
        self.check(simple(["a 1 2"], ["x 0 a:1 a:1"], "0 x 0 x"), {("a", 0, 100): 0})

    def test_lost_jobs_do_not_count(self):
        made = simple(["a 1 1"], ["x 0 a:5"], "0 x 1 x 2 x 5 x")
        self.check(made, {("a", 0, 5): 0, ("a", 0, 100): 2})

    def test_without_jobs(self):
        self.check(EMPTY, {("a", 0, 100): 0, ("b", 0, 1): 0})

    def test_many_models(self):
        for number in range(60):
            made = some_model(number)
            trace = slow_trace(made)
            for begin, end in ((0, 1), (0, 12), (5, 23), (8, 41), (0, 1000)):
                for name, _, _, _ in made[0]:
                    many = 0
                    where = {}
                    for time, word, job, station in trace:
                        if word in ("move", "leave") and where[job] == name and begin <= time < end:
                            many += 1
                        where[job] = station
                    self.assertEqual(flow(trace, name, (begin, end)), many)

    def test_the_kind_of_value(self):
        self.assertIs(type(flow(event_run(EXAMPLE), "a", (0, 10))), int)
        self.assertIs(type(flow([], "a", (0, 10))), int)


class AccountTest(unittest.TestCase):
    def check(self, made, rows):
        trace = event_run(made)
        for (station, begin, end), expected in rows.items():
            with self.subTest(station=station, begin=begin, end=end):
                self.assertEqual(account(made, trace, station, (begin, end)), expected)

    def test_the_example_of_the_interface(self):
        self.check(EXAMPLE, {("a", 0, 10): (8, 2, 8, 0, 0)})

    def test_stays_within_the_window(self):
        self.check(EXAMPLE, {("a", 0, 8): (8, 2, 8, 0, 0), ("b", 3, 13): (10, 2, 10, 0, 0), ("b", 0, 50): (10, 2, 10, 0, 0)})

    def test_stays_that_began_ahead_of_the_window(self):
        # At a the stays are from 0 to 3 and from 3 to 8; at b from 3 to 8 and from 8 to 13.
        self.check(EXAMPLE, {
            ("a", 1, 10): (7, 1, 5, 2, 0),
            ("a", 2, 3): (1, 0, 0, 1, 0),
            ("a", 4, 10): (4, 0, 0, 4, 0),
            ("a", 8, 10): (0, 0, 0, 0, 0),
            ("a", 20, 30): (0, 0, 0, 0, 0),
            ("b", 4, 13): (9, 1, 5, 4, 0),
        })

    def test_stays_that_end_behind_the_window(self):
        self.check(EXAMPLE, {
            ("a", 0, 2): (2, 1, 3, 0, 1),
            ("a", 0, 5): (5, 2, 8, 0, 3),
            ("b", 3, 12): (9, 2, 10, 0, 1),
            ("b", 0, 4): (1, 1, 5, 0, 4),
        })

    def test_both(self):
        self.check(EXAMPLE, {("a", 1, 5): (4, 1, 5, 2, 3), ("b", 5, 9): (4, 1, 5, 3, 4)})

    def test_a_stay_over_the_whole_window(self):
        self.check(EXAMPLE, {("a", 4, 6): (2, 0, 0, 2, 0), ("b", 9, 10): (1, 0, 0, 1, 0)})

    def test_stays_that_come_at_begin_count_and_those_that_come_at_end_do_not(self):
        self.check(EXAMPLE, {
            ("a", 3, 4): (1, 1, 5, 0, 4),
            ("a", 0, 3): (3, 1, 3, 0, 0),
            ("a", 2, 4): (2, 1, 5, 1, 4),
            ("b", 0, 3): (0, 0, 0, 0, 0),
            ("b", 8, 9): (1, 1, 5, 0, 4),
            ("b", 3, 8): (5, 1, 5, 0, 0),
        })

    def test_stays_that_go_on_for_ever_end_at_the_close(self):
        # Their last event is at 3: the close is 4, or the end of the window if that is later.
        self.assertEqual(event_run(STUCK)[-1], (3, "block", 1, "b"))
        self.check(STUCK, {
            ("a", 0, 1): (1, 1, 4, 0, 3),
            ("a", 0, 2): (3, 2, 7, 0, 4),
            ("a", 0, 3): (5, 2, 7, 0, 2),
            ("a", 0, 4): (7, 2, 7, 0, 0),
            ("a", 0, 5): (9, 2, 9, 0, 0),
            ("a", 0, 10): (19, 2, 19, 0, 0),
            ("a", 1, 2): (2, 1, 3, 1, 2),
            ("a", 1, 10): (18, 1, 9, 9, 0),
            ("a", 2, 3): (2, 0, 0, 2, 0),
            ("a", 100, 110): (20, 0, 0, 20, 0),
            ("b", 0, 3): (3, 1, 4, 0, 1),
            ("b", 0, 100): (100, 1, 100, 0, 0),
            ("b", 3, 4): (1, 0, 0, 1, 0),
        })

    def test_the_close_is_behind_the_last_event_of_all_stations(self):
        # Job 0 is stuck at a from 1 on; the last event is at 30, at b.
        made = simple(["a 1 1", "b 1 1"], ["p 0 a:1 a:1", "q 0 b:10"], "0 p 20 q")
        self.check(made, {
            ("a", 0, 5): (5, 1, 31, 0, 26),
            ("a", 0, 30): (30, 1, 31, 0, 1),
            ("a", 0, 31): (31, 1, 31, 0, 0),
            ("a", 0, 32): (32, 1, 32, 0, 0),
            ("a", 3, 5): (2, 0, 0, 2, 0),
            ("b", 0, 21): (1, 1, 10, 0, 9),
        })

    def test_jobs_that_come_again_and_lost_ones(self):
        self.check(SERVERS, {("a", 0, 12): (25, 4, 25, 0, 0), ("a", 0, 2): (4, 2, 12, 0, 8), ("a", 2, 6): (12, 2, 13, 4, 5)})
        made = simple(["a 1 1"], ["x 0 a:5"], "0 x 1 x 2 x 5 x")
        self.check(made, {("a", 0, 5): (5, 1, 5, 0, 0), ("a", 0, 20): (10, 2, 10, 0, 0)})

    def test_without_jobs(self):
        self.check(EMPTY, {("a", 0, 1): (0, 0, 0, 0, 0), ("b", 5, 50): (0, 0, 0, 0, 0)})

    def test_the_identity_for_many_models(self):
        for number in range(80):
            made = some_model(number)
            trace = slow_trace(made)
            for begin, end in ((0, 1), (0, 5), (3, 9), (4, 20), (10, 11), (0, 60), (30, 40), (500, 520)):
                for name, _, _, _ in made[0]:
                    with self.subTest(number, station=name, begin=begin, end=end):
                        self.check_account(made, trace, name, begin, end)

    def check_account(self, made, trace, name, begin, end):
        total_there, arrivals, total, before, after = account(made, trace, name, (begin, end))
        self.assertEqual(total_there, total + before - after)
        self.assertEqual(total_there, integral(made, trace, "there", name, (begin, end)))
        close = max(end, trace[-1][0] + 1) if trace else end
        lengths = {"total": 0, "before": 0, "after": 0, "many": 0}
        for job in range(len(made[3])):
            for station, came, _, _, went in stays(trace, job):
                times = range(came, close if went is None else went)
                if station == name and came in range(begin, end):
                    lengths["many"] += 1
                    lengths["total"] += len(times)
                    lengths["after"] += sum(time >= end for time in times)
                if station == name and came < begin:
                    lengths["before"] += sum(begin <= time < end for time in times)
        found = {"total": total, "before": before, "after": after, "many": arrivals}
        self.assertEqual(found, lengths)

    def test_little_s_law_where_nobody_is_there_at_both_ends(self):
        many = 0
        for number in range(120):
            made = some_model(number)
            trace = slow_trace(made)
            rows = slow_places(made, last_time_of(trace) + 2)
            for name, _, _, _ in made[0]:
                empty = [time for time, places in enumerate(rows) if slow_value(places, "there", name) == 0]
                # Nobody is there at the time ahead of each of these, or it is 0.
                ends = [0] + [time + 1 for time in empty]
                for begin, end in {(0, ends[-1]), (ends[len(ends) // 3], ends[-1]), (0, ends[len(ends) // 2])}:
                    if begin < end:
                        many += self.check_little(made, trace, name, begin, end)
        self.assertGreater(many, 100)

    def check_little(self, made, trace, name, begin, end):
        _, arrivals, total, before, after = account(made, trace, name, (begin, end))
        self.assertEqual((before, after), (0, 0))
        if arrivals == 0:
            return 0
        top, bottom = mean(made, trace, "there", name, (begin, end))
        rate, length = fractions.Fraction(arrivals, end - begin), fractions.Fraction(total, arrivals)
        self.assertEqual(fractions.Fraction(top, bottom), rate * length)
        return 1

    def test_the_kinds_of_values(self):
        found = account(EXAMPLE, event_run(EXAMPLE), "a", (0, 10))
        self.assertEqual([type(found), *map(type, found)], [tuple] + [int] * 5)


class NothingIsModifiedTest(unittest.TestCase):
    def test_the_arguments_stay(self):
        for made in (EXAMPLE, SERVERS, STUCK, EMPTY):
            trace = event_run(made)
            before = copy.deepcopy((made, trace))
            for window in ((0, 1), (2, 9), (0, 100)):
                for word in WORDS:
                    value_at(made, trace, word, None, 3)
                    integral(made, trace, word, "a", window)
                    mean(made, trace, word, None, window)
                use(made, trace, "a", window)
                flow(trace, "a", window)
                account(made, trace, "b", window)
                self.assertEqual((made, trace), before)


class InterfaceTest(unittest.TestCase):
    def test_names_and_arguments(self):
        arguments = {
            "value_at": ["some_model", "events", "word", "station", "time"],
            "integral": ["some_model", "events", "word", "station", "window"],
            "mean": ["some_model", "events", "word", "station", "window"],
            "use": ["some_model", "events", "station", "window"],
            "flow": ["events", "station", "window"],
            "account": ["some_model", "events", "station", "window"],
        }
        for name, expected in arguments.items():
            with self.subTest(name):
                function = getattr(counts, name)
                self.assertEqual(list(inspect.signature(function).parameters), expected)
                self.assertEqual(function.__module__, counts.__name__)


if __name__ == "__main__":
    unittest.main()
