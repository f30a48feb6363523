import copy
import inspect
import unittest

from eventsteps import traces
from eventsteps.models import model
from eventsteps.runs import event_run
from eventsteps.traces import flaw_of, stays
from reference import events_of, slow_trace, some_model

EXAMPLE = model(
    [("a", 1, 1, "first"), ("b", 1, 1, "first")], [("x", 0, (("a", 3), ("b", 5)))], [], [(0, "x"), (3, "x"), (4, "x")]
)
EMPTY = model([("a", 1, 1, "first")], [("x", 0, (("a", 1),))], [("a", 2, 5)], [])
# Job 0 waits, is served, moves to the same station and leaves; job 1 waits for it; nobody is blocked.
AGAIN = model(
    [("a", 1, 3, "first")], [("x", 0, (("a", 3), ("a", 4))), ("y", 0, (("a", 2),))], [("a", 0, 1)], [(0, "x"), (2, "y")]
)


class FlawTest(unittest.TestCase):
    def setUp(self):
        self.trace = event_run(EXAMPLE)

    def check(self, events, flaw):
        self.assertEqual(flaw_of(EXAMPLE, events), flaw)

    def test_the_trace_has_none(self):
        self.assertIsNone(flaw_of(EXAMPLE, self.trace))
        self.assertIsNone(flaw_of(EXAMPLE, list(self.trace)))
        self.assertIsNone(flaw_of(EMPTY, []))
        for number in range(60):
            made = some_model(number)
            self.assertIsNone(flaw_of(made, slow_trace(made)))

    def test_the_empty_list(self):
        self.check([], (0, "missing"))

    def test_cut_short(self):
        for many in range(len(self.trace)):
            self.check(self.trace[:many], (many, "missing"))

    def test_one_event_more_behind_the_end(self):
        for event in (self.trace[-1], (14, "come", 0, "a"), (13, "leave", 1, "b"), (0, "come", 0, "a"), (-1, "", -1, "")):
            self.check([*self.trace, event], (len(self.trace), "not due"))
            self.check([*self.trace, event, event], (len(self.trace), "not due"))
        self.assertEqual(flaw_of(EMPTY, [(0, "come", 0, "a")]), (0, "not due"))

    def test_an_event_changed_in_each_of_its_places(self):
        for index, (time, word, job, name) in enumerate(self.trace):
            others = [(time + 1, word, job, name), (time - 1, word, job, name), (time, "", job, name),
                      (time, "move" if word != "move" else "come", job, name), (time, word, job + 1, name),
                      (time, word, -1, name), (time, word, job, "c"), (time, word, job, ""),
                      (time, word, job, "a" if name == "b" else "b"), (time, word.upper(), job, name)]
            for event in others:
                with self.subTest(index=index, event=event):
                    events = list(self.trace)
                    events[index] = event
                    self.check(events, (index, "not due"))
                    self.check(events[:index + 1], (index, "not due"))

    def test_left_out(self):
        for index in range(len(self.trace) - 1):
            self.check(self.trace[:index] + self.trace[index + 1:], (index, "not due"))
        self.check(self.trace[:-1], (len(self.trace) - 1, "missing"))

    def test_doubled(self):
        for index, event in enumerate(self.trace):
            self.check(self.trace[:index] + [event] + self.trace[index:], (index + 1, "not due"))

    def test_exchanged_with_the_next_one(self):
        for index in range(len(self.trace) - 1):
            events = list(self.trace)
            events[index], events[index + 1] = events[index + 1], events[index]
            self.check(events, (index, "not due"))

    def test_put_in(self):
        for index in range(len(self.trace) + 1):
            for event in ((5, "begin", 2, "a"), (0, "come", 2, "a"), (13, "block", 1, "b")):
                self.check(self.trace[:index] + [event] + self.trace[index:], (index, "not due"))

    def test_the_first_flaw_counts(self):
        for index in range(len(self.trace) - 2):
            events = list(self.trace)
            events[index] = (99, "come", 0, "a")
            events[index + 2] = (99, "come", 0, "a")
            self.check(events, (index, "not due"))
            self.check(events[:-1], (index, "not due"))

    def test_the_trace_of_another_model(self):
        later = model(*map(list, EXAMPLE[:3]), [(0, "x"), (4, "x")])
        self.check(event_run(later), (5, "not due"))
        self.assertEqual(flaw_of(later, self.trace), (5, "not due"))
        fewer = model(*map(list, EXAMPLE[:3]), [])
        self.check(event_run(fewer), (0, "missing"))
        self.assertEqual(flaw_of(fewer, self.trace), (0, "not due"))

    def test_a_model_that_gets_stuck(self):
        stuck = model([("a", 1, 1, "first")], [("x", 0, (("a", 6), ("a", 9)))], [], [(3, "x")])
        trace = events_of("3 come 0 a\n3 begin 0 a\n9 end 0 a\n9 block 0 a")
        self.assertIsNone(flaw_of(stuck, trace))
        self.assertEqual(flaw_of(stuck, trace[:3]), (3, "missing"))
        self.assertEqual(flaw_of(stuck, [*trace, (18, "leave", 0, "a")]), (4, "not due"))

    def test_a_flaw_is_a_tuple(self):
        self.assertIs(type(flaw_of(EXAMPLE, [])), tuple)
        self.assertIs(type(flaw_of(EMPTY, [(0, "come", 0, "a")])), tuple)


class StaysTest(unittest.TestCase):
    def check(self, some_model, job, rows):
        """Expect the stays of a job in each beginning of a trace, by the number of events from which on they are so."""
        trace = event_run(some_model)
        expected = []
        for many in range(len(trace) + 1):
            expected = rows.get(many, expected)
            with self.subTest(job=job, many=many):
                self.assertEqual(stays(trace[:many], job), expected)

    def test_a_job_that_is_served_twice(self):
        self.check(EXAMPLE, 0, {
            1: [("a", 0, None, None, None)],
            2: [("a", 0, 0, None, None)],
            3: [("a", 0, 0, 3, None)],
            4: [("a", 0, 0, 3, 3), ("b", 3, None, None, None)],
            5: [("a", 0, 0, 3, 3), ("b", 3, 3, None, None)],
            11: [("a", 0, 0, 3, 3), ("b", 3, 3, 8, None)],
            12: [("a", 0, 0, 3, 3), ("b", 3, 3, 8, 8)],
        })

    def test_a_job_that_is_blocked(self):
        self.check(EXAMPLE, 1, {
            6: [("a", 3, None, None, None)],
            7: [("a", 3, 3, None, None)],
            # The event with index 9 is its `block`, which changes nothing.
            9: [("a", 3, 3, 6, None)],
            13: [("a", 3, 3, 6, 8), ("b", 8, None, None, None)],
            14: [("a", 3, 3, 6, 8), ("b", 8, 8, None, None)],
            15: [("a", 3, 3, 6, 8), ("b", 8, 8, 13, None)],
            16: [("a", 3, 3, 6, 8), ("b", 8, 8, 13, 13)],
        })

    def test_a_lost_job_has_none(self):
        self.assertIn((4, "lost", 2, "a"), event_run(EXAMPLE))
        self.check(EXAMPLE, 2, {})

    def test_a_job_that_is_not_there_has_none(self):
        for job in (-1, 3, 40):
            self.check(EXAMPLE, job, {})
        self.assertEqual(stays([], 0), [])

    def test_a_job_that_moves_to_the_same_station(self):
        self.assertEqual(event_run(AGAIN), events_of("""
            0 come 0 a
            1 begin 0 a
            2 come 1 a
            4 end 0 a
            4 move 0 a
            4 begin 1 a
            6 end 1 a
            6 leave 1 a
            6 begin 0 a
            10 end 0 a
            10 leave 0 a
        """))
        self.check(AGAIN, 0, {
            1: [("a", 0, None, None, None)],
            2: [("a", 0, 1, None, None)],
            4: [("a", 0, 1, 4, None)],
            5: [("a", 0, 1, 4, 4), ("a", 4, None, None, None)],
            9: [("a", 0, 1, 4, 4), ("a", 4, 6, None, None)],
            10: [("a", 0, 1, 4, 4), ("a", 4, 6, 10, None)],
            11: [("a", 0, 1, 4, 4), ("a", 4, 6, 10, 10)],
        })

    def test_a_job_that_waits_for_another_one(self):
        self.check(AGAIN, 1, {
            3: [("a", 2, None, None, None)],
            6: [("a", 2, 4, None, None)],
            7: [("a", 2, 4, 6, None)],
            8: [("a", 2, 4, 6, 6)],
        })

    def test_a_stuck_job(self):
        stuck = model([("a", 1, 2, "first"), ("b", 1, 1, "first")],
                      [("x", 0, (("b", 6), ("b", 9))), ("y", 0, (("a", 1), ("b", 1)))], [], [(3, "x"), (4, "y"), (7, "y")])
        trace = event_run(stuck)
        self.assertEqual(stays(trace, 0), [("b", 3, 3, 9, None)])
        self.assertEqual(stays(trace, 1), [("a", 4, 4, 5, None)])
        self.assertEqual(stays(trace, 2), [("a", 7, None, None, None)])

    def test_each_job_of_many_models(self):
        for number in range(60):
            made = some_model(number)
            trace = event_run(made)
            routes = {name: route for name, _, route in made[1]}
            for job, (time, kind) in enumerate(made[3]):
                with self.subTest(number, job=job):
                    self.check_against_the_model(stays(trace, job), trace, job, time, routes[kind])

    def check_against_the_model(self, found, trace, job, time, route):
        words = [word for _, word, number, _ in trace if number == job]
        self.assertEqual(len(found), words.count("come") + words.count("move"))
        self.assertEqual([stay[0] for stay in found], [name for name, _ in route[:len(found)]])
        for stay, (_, duration), after in zip(found, route, [*found[1:], None]):
            name, came, began, ended, went = stay
            self.assertIn((came, "come" if stay is found[0] else "move", job, name), trace)
            if began is not None:
                self.assertIn((began, "begin", job, name), trace)
            if ended is not None:
                self.assertEqual(ended, began + duration)
            if after is not None:
                self.assertEqual(after[1], went)
        if found:
            self.assertEqual(found[0][1], time)
            self.assertEqual(found[-1][4] is not None, "leave" in words)

    def test_the_kinds_of_values(self):
        found = stays(event_run(EXAMPLE), 0)
        self.assertIs(type(found), list)
        self.assertEqual([type(stay) for stay in found], [tuple, tuple])


class NothingIsModifiedTest(unittest.TestCase):
    def test_the_arguments_stay(self):
        for many in (0, 1, 5, 16):
            events = event_run(EXAMPLE)[:many]
            before = copy.deepcopy(events)
            flaw_of(EXAMPLE, events)
            for job in range(4):
                stays(events, job)
            self.assertEqual(events, before)

    def test_lists_are_new(self):
        trace = event_run(EXAMPLE)
        for job in range(3):
            expected = stays(trace, job)
            answer = stays(trace, job)
            answer.append("nothing")
            answer[0] = "nothing"
            self.assertEqual(stays(trace, job), expected)
        stays([], 0).append("nothing")
        self.assertEqual(stays([], 0), [])

    def test_a_flaw_does_not_change_later_answers(self):
        trace = event_run(EXAMPLE)
        for _ in range(2):
            self.assertEqual(flaw_of(EXAMPLE, trace[1:]), (0, "not due"))
            self.assertIsNone(flaw_of(EXAMPLE, trace))


class InterfaceTest(unittest.TestCase):
    def test_names_and_arguments(self):
        for name, expected in {"flaw_of": ["some_model", "events"], "stays": ["events", "job"]}.items():
            with self.subTest(name):
                function = getattr(traces, name)
                self.assertEqual(list(inspect.signature(function).parameters), expected)
                self.assertEqual(function.__module__, traces.__name__)


if __name__ == "__main__":
    unittest.main()
