import copy
import inspect
import unittest

from eventsteps import runs
from eventsteps.models import model
from eventsteps.runs import (
    common_unit, event_run, run_from, shifted, state_at, stepped_run, stretched,
)
from eventsteps.states import first_state, happen, next_time
from reference import events_of, last_time, slow_trace, some_model, told_state

EXAMPLE = model(
    [("a", 1, 1, "first"), ("b", 1, 1, "first")], [("x", 0, (("a", 3), ("b", 5)))], [], [(0, "x"), (3, "x"), (4, "x")]
)
EXAMPLE_TRACE = [
    (0, "come", 0, "a"), (0, "begin", 0, "a"), (3, "end", 0, "a"), (3, "move", 0, "b"), (3, "begin", 0, "b"),
    (3, "come", 1, "a"), (3, "begin", 1, "a"), (4, "lost", 2, "a"), (6, "end", 1, "a"), (6, "block", 1, "a"),
    (8, "end", 0, "b"), (8, "leave", 0, "b"), (8, "move", 1, "b"), (8, "begin", 1, "b"), (13, "end", 1, "b"),
    (13, "leave", 1, "b"),
]
EMPTY = model([("a", 1, 1, "first")], [("x", 0, (("a", 1),))], [], [])


def divisors(number):
    return [unit for unit in range(1, number + 1) if number % unit == 0]


def single(duration=1, jobs=(), pauses=(), more=()):
    """A model with one station, and one kind for each duration."""
    kinds = [(f"k{at}", 0, (("a", length),)) for at, length in enumerate((duration, *more))]
    return model([("a", 1, None, "first")], kinds, list(pauses), [(time, "k0") for time in jobs])


class ExampleTest(unittest.TestCase):
    def test_the_example_of_the_interface(self):
        self.assertEqual(event_run(EXAMPLE), EXAMPLE_TRACE)
        self.assertEqual(stepped_run(EXAMPLE, 1), EXAMPLE_TRACE)
        self.assertEqual(run_from(EXAMPLE, first_state(EXAMPLE)), EXAMPLE_TRACE)

    def test_the_kinds_of_values(self):
        for trace in (event_run(EXAMPLE), stepped_run(EXAMPLE, 1), run_from(EXAMPLE, state_at(EXAMPLE, 4))):
            self.assertIs(type(trace), list)
            for event in trace:
                self.assertIs(type(event), tuple)
                self.assertEqual([type(part) for part in event], [int, str, int, str])

    def test_without_jobs(self):
        paused = single(pauses=[("a", 0, 7), ("a", 9, 21)])
        for made in (EMPTY, paused):
            self.assertEqual(event_run(made), [])
            self.assertEqual(stepped_run(made, 1), [])
            self.assertEqual(run_from(made, first_state(made)), [])


class BothRunsTest(unittest.TestCase):
    def check(self, made, units):
        """Expect both runs to make the same trace, which the tests find in a slow way, too."""
        expected = slow_trace(made)
        self.assertEqual(event_run(made), expected)
        for unit in units:
            with self.subTest(unit=unit):
                self.assertEqual(stepped_run(made, unit), expected)

    def test_many_models_with_unit_1_and_the_common_unit(self):
        for number in range(150):
            with self.subTest(number):
                made = some_model(number)
                self.check(made, {1, common_unit(made)})

    def test_each_unit_that_divides_the_common_unit(self):
        for number in range(40):
            for many in (2, 12):
                made = stretched(some_model(number, most=8), many)
                self.assertEqual(common_unit(made) % many, 0)
                with self.subTest(number, many=many):
                    self.check(made, divisors(common_unit(made)))

    def test_pauses(self):
        kinds = [("x", 0, (("a", 4), ("b", 6)))]
        pauses = [("a", 2, 14), ("a", 16, 20), ("b", 0, 24), ("b", 28, 50)]
        made = model([("a", 1, 2, "last"), ("b", 1, 1, "first")], kinds, pauses, [(at, "x") for at in range(0, 40, 4)])
        self.assertEqual(common_unit(made), 2)
        self.check(made, (1, 2))

    def test_times_far_apart(self):
        kinds = [("x", 0, (("a", 100), ("b", 7)))]
        pauses = [("a", 9990, 9999), ("b", 105, 5000)]
        made = model([("a", 1, 1, "first"), ("b", 1, 1, "first")], kinds, pauses, [(0, "x"), (9985, "x"), (10000, "x")])
        self.check(made, (1,))
        made = model(made[0], [("x", 0, (("a", 100), ("b", 50)))], [("b", 100, 9950)], [(0, "x"), (9900, "x"), (10000, "x")])
        self.assertEqual(common_unit(made), 50)
        self.check(made, (50, 25, 10, 5, 2, 1))

    def test_a_pause_ends_long_behind_all_other_times(self):
        made = single(duration=10, jobs=[0, 0], pauses=[("a", 10, 9990)])
        expected = events_of("""
            0 come 0 a
            0 come 1 a
            0 begin 0 a
            10 end 0 a
            10 leave 0 a
            9990 begin 1 a
            10000 end 1 a
            10000 leave 1 a
        """)
        self.assertEqual(event_run(made), expected)
        for unit in (1, 2, 5, 10):
            self.assertEqual(stepped_run(made, unit), expected)

    def test_a_model_that_gets_stuck(self):
        made = model([("a", 1, 1, "first")], [("x", 0, (("a", 6), ("a", 9)))], [], [(3, "x"), (12, "x")])
        expected = events_of("3 come 0 a\n3 begin 0 a\n9 end 0 a\n9 block 0 a\n12 lost 1 a")
        self.assertEqual(event_run(made), expected)
        self.assertEqual(stepped_run(made, 1), expected)
        self.assertEqual(stepped_run(made, 3), expected)


class CommonUnitTest(unittest.TestCase):
    def test_durations(self):
        self.assertEqual(common_unit(single(1)), 1)
        self.assertEqual(common_unit(single(12)), 12)
        self.assertEqual(common_unit(single(12, more=[18])), 6)
        self.assertEqual(common_unit(single(12, more=[18, 4])), 2)
        self.assertEqual(common_unit(single(12, more=[18, 4, 9])), 1)
        self.assertEqual(common_unit(single(100, more=[75])), 25)

    def test_durations_of_each_step_and_of_kinds_without_jobs(self):
        kinds = [("x", 0, (("a", 8), ("b", 12))), ("y", 0, (("a", 20), ("a", 16), ("b", 6)))]
        made = model([("a", 1, 1, "first"), ("b", 1, 1, "first")], kinds, [], [(0, "x")])
        self.assertEqual(common_unit(made), 2)
        self.assertEqual(common_unit((made[0], made[1][:1], (), made[3])), 4)

    def test_times_of_jobs(self):
        self.assertEqual(common_unit(single(60, jobs=[0])), 60)
        self.assertEqual(common_unit(single(60, jobs=[40])), 20)
        self.assertEqual(common_unit(single(60, jobs=[0, 40, 90])), 10)
        self.assertEqual(common_unit(single(60, jobs=[0, 40, 10000])), 20)
        self.assertEqual(common_unit(single(60, jobs=[0, 40, 9999])), 1)
        self.assertEqual(common_unit(single(60, jobs=[120])), 60)

    def test_begins_and_ends_of_pauses(self):
        self.assertEqual(common_unit(single(60, pauses=[("a", 0, 600)])), 60)
        self.assertEqual(common_unit(single(60, pauses=[("a", 0, 45)])), 15)
        self.assertEqual(common_unit(single(60, pauses=[("a", 40, 60)])), 20)
        self.assertEqual(common_unit(single(60, pauses=[("a", 60, 120), ("a", 180, 190)])), 10)
        self.assertEqual(common_unit(single(60, pauses=[("a", 60, 120), ("a", 186, 240)])), 6)

    def test_servers_rooms_and_priorities_do_not_count(self):
        made = model([("a", 3, 7, "first")], [("x", 5, (("a", 4),))], [], [(8, "x")])
        self.assertEqual(common_unit(made), 4)

    def test_where_all_that_there_is_is_0(self):
        stations = (("a", 1, 1, "first"),)
        self.assertEqual(common_unit((stations, (), (), ())), 1)
        self.assertEqual(common_unit((stations, (("x", 0, (("a", 0),)),), (), ((0, "x"), (0, "x")))), 1)

    def test_with_a_duration_0_alone_is_not_greater_than_the_others_allow(self):
        made = model([("a", 1, 1, "first")], [("x", 0, (("a", 5),))], [("a", 0, 10)], [(0, "x"), (0, "x")])
        self.assertEqual(common_unit(made), 5)
        self.assertEqual(common_unit(EMPTY), 1)

    def test_it_is_the_greatest_integer_that_divides_all(self):
        for number in range(60):
            for many in (1, 6):
                made = stretched(some_model(number), many)
                numbers = [length for _, _, route in made[1] for _, length in route]
                numbers += [time for _, begin, end in made[2] for time in (begin, end)]
                numbers += [time for time, _ in made[3]]
                dividing = [unit for unit in range(1, 100) if all(number % unit == 0 for number in numbers)]
                self.assertEqual(common_unit(made), max(dividing))

    def test_the_kind_of_value(self):
        self.assertIs(type(common_unit(EMPTY)), int)


class StateAtTest(unittest.TestCase):
    def test_at_0(self):
        for made in (EXAMPLE, EMPTY, single(jobs=[0, 5], pauses=[("a", 0, 9)])):
            self.assertEqual(state_at(made, 0), first_state(made))

    def test_the_example_at_each_time(self):
        nobody = ((), ())
        rows = {
            0: (nobody, nobody, (), (-1, -1, -1)),
            1: (nobody, (((3, 0),), ()), (), (0, -1, -1)),
            2: (nobody, (((3, 0),), ()), (), (0, -1, -1)),
            3: (nobody, (((3, 0),), ()), (), (0, -1, -1)),
            4: (nobody, (((6, 1),), ((8, 0),)), (), (1, 0, -1)),
            5: (nobody, (((6, 1),), ((8, 0),)), (), (1, 0, -3)),
            6: (nobody, (((6, 1),), ((8, 0),)), (), (1, 0, -3)),
            7: (nobody, ((), ((8, 0),)), ((6, 1),), (1, 0, -3)),
            8: (nobody, ((), ((8, 0),)), ((6, 1),), (1, 0, -3)),
            9: (nobody, ((), ((13, 1),)), (), (-2, 1, -3)),
            13: (nobody, ((), ((13, 1),)), (), (-2, 1, -3)),
            14: (nobody, nobody, (), (-2, -2, -3)),
            15: (nobody, nobody, (), (-2, -2, -3)),
            20000: (nobody, nobody, (), (-2, -2, -3)),
            10 ** 9: (nobody, nobody, (), (-2, -2, -3)),
        }
        for time, parts in rows.items():
            with self.subTest(time):
                self.assertEqual(state_at(EXAMPLE, time), (time, *parts))

    def test_without_jobs(self):
        for time in (0, 1, 5, 100):
            self.assertEqual(state_at(EMPTY, time), (time, ((),), ((),), (), ()))

    def test_at_each_time_of_many_models(self):
        for number in range(60):
            made = some_model(number)
            trace = slow_trace(made)
            for time in [*range(last_time(made) + 3), 10 ** 6]:
                with self.subTest(number, time=time):
                    self.assertEqual(state_at(made, time), told_state(made, trace, time))

    def test_happen_tells_the_events_of_its_time(self):
        for number in range(40):
            made = some_model(number)
            trace = event_run(made)
            for time in range(last_time(made) + 2):
                with self.subTest(number, time=time):
                    events, behind = happen(made, state_at(made, time))
                    self.assertEqual(events, [event for event in trace if event[0] == time])
                    self.assertEqual(behind, state_at(made, time + 1))


class RunFromTest(unittest.TestCase):
    def test_the_example_from_each_time(self):
        for time in range(20):
            with self.subTest(time):
                rest = run_from(EXAMPLE, state_at(EXAMPLE, time))
                self.assertEqual(rest, [event for event in EXAMPLE_TRACE if event[0] >= time])

    def test_both_parts_make_the_trace(self):
        for number in range(60):
            made = some_model(number)
            trace = event_run(made)
            for time in [*range(0, last_time(made) + 3, 2), 10 ** 6]:
                with self.subTest(number, time=time):
                    ahead = [event for event in trace if event[0] < time]
                    self.assertEqual(ahead + run_from(made, state_at(made, time)), trace)

    def test_from_a_state_on_the_way(self):
        for number in range(40):
            made = some_model(number)
            trace = event_run(made)
            events, state = [], first_state(made)
            while next_time(made, state) is not None:
                self.assertEqual(events + run_from(made, state), trace)
                these, state = happen(made, state)
                events += these
            self.assertEqual(events, trace)

    def test_a_state_in_a_pause(self):
        made = single(duration=2, jobs=[1], pauses=[("a", 0, 5)])
        rest = events_of("5 begin 0 a\n7 end 0 a\n7 leave 0 a")
        for time in (2, 4, 5):
            self.assertEqual(run_from(made, state_at(made, time)), rest)
        self.assertEqual(run_from(made, state_at(made, 6)), rest[1:])

    def test_where_nothing_comes_any_more(self):
        for time in (14, 15, 10000):
            self.assertEqual(run_from(EXAMPLE, state_at(EXAMPLE, time)), [])
        stuck = model([("a", 1, 1, "first")], [("x", 0, (("a", 6), ("a", 9)))], [], [(3, "x")])
        self.assertEqual(run_from(stuck, state_at(stuck, 10)), [])


class ShiftedTest(unittest.TestCase):
    MODEL = model(
        [("a", 1, 4, "last"), ("b", 2, None, "priority")],
        [("x", 3, (("a", 7), ("b", 2))), ("y", 0, (("b", 1),))],
        [("a", 5, 8), ("a", 20, 30), ("b", 6, 7)],
        [(5, "x"), (5, "y"), (9, "x")],
    )

    def test_part_by_part(self):
        stations, kinds, _, _ = self.MODEL
        for many in (1, 4, 100):
            self.assertEqual(shifted(self.MODEL, many), (
                stations,
                kinds,
                (("a", 5 + many, 8 + many), ("a", 20 + many, 30 + many), ("b", 6 + many, 7 + many)),
                ((5 + many, "x"), (5 + many, "y"), (9 + many, "x")),
            ))

    def test_by_a_negative_integer(self):
        stations, kinds, _, _ = self.MODEL
        self.assertEqual(shifted(self.MODEL, -5), (
            stations, kinds, (("a", 0, 3), ("a", 15, 25), ("b", 1, 2)), ((0, "x"), (0, "y"), (4, "x"))
        ))
        self.assertEqual(shifted(shifted(self.MODEL, 12), -12), self.MODEL)

    def test_by_0(self):
        self.assertEqual(shifted(self.MODEL, 0), self.MODEL)
        self.assertEqual(shifted(EMPTY, 0), EMPTY)

    def test_without_pauses_and_jobs(self):
        self.assertEqual(shifted(EMPTY, 7), EMPTY)

    def test_beyond_the_limits(self):
        stations, kinds, _, _ = self.MODEL
        self.assertEqual(shifted(self.MODEL, 10 ** 5), (
            stations,
            kinds,
            (("a", 100005, 100008), ("a", 100020, 100030), ("b", 100006, 100007)),
            ((100005, "x"), (100005, "y"), (100009, "x")),
        ))

    def test_the_trace_is_shifted(self):
        for number in range(60):
            made = some_model(number)
            trace = event_run(made)
            for many in (0, 1, 17, 10 ** 6):
                with self.subTest(number, many=many):
                    later = [(time + many, word, job, name) for time, word, job, name in trace]
                    self.assertEqual(event_run(shifted(made, many)), later)
            later = shifted(made, 17)
            self.assertEqual(stepped_run(later, 1), event_run(later))
            self.assertEqual(event_run(shifted(later, -17)), trace)

    def test_the_kinds_of_values(self):
        made = shifted(self.MODEL, 3)
        self.assertIs(type(made), tuple)
        self.assertEqual([type(part) for part in made], [tuple] * 4)
        for part in made:
            self.assertEqual({type(row) for row in part}, {tuple})


class StretchedTest(unittest.TestCase):
    MODEL = ShiftedTest.MODEL

    def test_part_by_part(self):
        for many in (2, 3, 11):
            self.assertEqual(stretched(self.MODEL, many), (
                (("a", 1, 4, "last"), ("b", 2, None, "priority")),
                (("x", 3, (("a", 7 * many), ("b", 2 * many))), ("y", 0, (("b", many),))),
                (("a", 5 * many, 8 * many), ("a", 20 * many, 30 * many), ("b", 6 * many, 7 * many)),
                ((5 * many, "x"), (5 * many, "y"), (9 * many, "x")),
            ))

    def test_by_1(self):
        self.assertEqual(stretched(self.MODEL, 1), self.MODEL)
        self.assertEqual(stretched(EMPTY, 1), EMPTY)

    def test_without_pauses_and_jobs(self):
        self.assertEqual(stretched(EMPTY, 7), ((("a", 1, 1, "first"),), (("x", 0, (("a", 7),)),), (), ()))

    def test_beyond_the_limits(self):
        self.assertEqual(stretched(self.MODEL, 10 ** 4), (
            self.MODEL[0],
            (("x", 3, (("a", 70000), ("b", 20000))), ("y", 0, (("b", 10000),))),
            (("a", 50000, 80000), ("a", 200000, 300000), ("b", 60000, 70000)),
            ((50000, "x"), (50000, "y"), (90000, "x")),
        ))

    def test_the_trace_is_stretched(self):
        for number in range(60):
            made = some_model(number)
            trace = event_run(made)
            for many in (1, 2, 7, 10 ** 4):
                with self.subTest(number, many=many):
                    slower = [(time * many, word, job, name) for time, word, job, name in trace]
                    self.assertEqual(event_run(stretched(made, many)), slower)
            self.assertEqual(stepped_run(stretched(made, 7), 7), event_run(stretched(made, 7)))

    def test_the_common_unit_is_stretched(self):
        for number in range(60):
            made = some_model(number)
            self.assertEqual(common_unit(stretched(made, 5)), 5 * common_unit(made))

    def test_the_kinds_of_values(self):
        made = stretched(self.MODEL, 3)
        self.assertIs(type(made), tuple)
        self.assertEqual([type(part) for part in made], [tuple] * 4)
        for _, _, route in made[1]:
            self.assertIs(type(route), tuple)
            self.assertEqual({type(step) for step in route}, {tuple})


class NothingIsModifiedTest(unittest.TestCase):
    CALLS = (
        event_run,
        lambda made: stepped_run(made, 1),
        common_unit,
        lambda made: state_at(made, 7),
        lambda made: run_from(made, state_at(made, 3)),
        lambda made: shifted(made, 5),
        lambda made: stretched(made, 5),
    )

    def test_the_model_stays(self):
        for number in range(20):
            made = some_model(number)
            before = copy.deepcopy(made)
            for call in self.CALLS:
                call(made)
                self.assertEqual(made, before)

    def test_the_state_stays(self):
        for time in range(15):
            state = state_at(EXAMPLE, time)
            before = copy.deepcopy(state)
            run_from(EXAMPLE, state)
            self.assertEqual(state, before)

    def test_lists_are_new(self):
        calls = (event_run, lambda made: stepped_run(made, 1), lambda made: run_from(made, first_state(made)))
        for call in calls:
            for made in (EXAMPLE, EMPTY):
                expected = call(made)
                answer = call(made)
                answer.append("nothing")
                answer.reverse()
                self.assertEqual(call(made), expected)
                call(made).clear()
                for other in calls:
                    self.assertEqual(other(made), expected)


class InterfaceTest(unittest.TestCase):
    def test_names_and_arguments(self):
        arguments = {
            "event_run": ["some_model"],
            "stepped_run": ["some_model", "unit"],
            "common_unit": ["some_model"],
            "state_at": ["some_model", "time"],
            "run_from": ["some_model", "state"],
            "shifted": ["some_model", "many"],
            "stretched": ["some_model", "many"],
        }
        for name, expected in arguments.items():
            with self.subTest(name):
                function = getattr(runs, name)
                self.assertEqual(list(inspect.signature(function).parameters), expected)
                self.assertEqual(function.__module__, runs.__name__)


if __name__ == "__main__":
    unittest.main()
