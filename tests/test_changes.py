import copy
import inspect
import itertools
import random
import unittest

from eventsteps import changes
from eventsteps.changes import debt, first_difference, left_out
from eventsteps.models import model
from eventsteps.runs import event_run
from reference import simple, slow_trace, some_model

EXAMPLE = simple(["a 1 1", "b 1 1"], ["x 0 a:3 b:5"], "0 x 3 x 4 x")
EMPTY = simple(["a 1 1", "b 2 -"], ["x 0 a:3 b:5"], "", [("a", 2, 5)])
LINE = simple(["a 1 -"], ["x 0 a:3", "y 0 a:5", "z 9 a:1"], "0 x 0 y 1 z 2 x")


def slow_difference(made, other):
    """The first difference of two models, from their slow traces."""
    pairs = itertools.zip_longest(slow_trace(made), slow_trace(other))
    return next(((index, *pair) for index, pair in enumerate(pairs) if pair[0] != pair[1]), None)


class FirstDifferenceTest(unittest.TestCase):
    def check(self, made, other, expected):
        """Expect a first difference, and the same one with its events exchanged the other way round."""
        self.assertEqual(first_difference(made, other), expected)
        turned = None if expected is None else (expected[0], expected[2], expected[1])
        self.assertEqual(first_difference(other, made), turned)

    def test_the_same_model_twice(self):
        for made in (EXAMPLE, EMPTY, LINE, *map(some_model, range(30))):
            self.check(made, made, None)
            self.check(made, copy.deepcopy(made), None)

    def test_other_models_with_the_same_trace(self):
        stations = ["a 1 1", "b 1 1"]
        self.check(EXAMPLE, simple(stations, ["x 0 a:3 b:5", "y 0 b:9"], "0 x 3 x 4 x"), None)
        self.check(EXAMPLE, simple(stations, ["x 5 a:3 b:5"], "0 x 3 x 4 x"), None)
        self.check(EXAMPLE, simple(stations, ["x 0 a:3 b:5"], "0 x 3 x 4 x", [("a", 1, 3), ("b", 50, 60)]), None)
        self.check(EXAMPLE, simple(["a 1 1 last", "b 1 2"], ["x 0 a:3 b:5"], "0 x 3 x 4 x"),
                   (9, (6, "block", 1, "a"), (6, "move", 1, "b")))
        self.check(EMPTY, simple(["a 1 1", "b 2 -"], ["x 0 a:3 b:5"], ""), None)

    def test_a_job(self):
        stations, kinds = ["a 1 1", "b 1 1"], ["x 0 a:3 b:5"]
        self.check(EXAMPLE, simple(stations, kinds, "0 x 2 x 4 x"), (2, (3, "end", 0, "a"), (2, "lost", 1, "a")))
        self.check(EXAMPLE, simple(stations, kinds, "0 x 3 x 6 x"), (7, (4, "lost", 2, "a"), (6, "end", 1, "a")))
        self.check(EXAMPLE, simple(stations, kinds, "1 x 3 x 4 x"), (0, (0, "come", 0, "a"), (1, "come", 0, "a")))

    def test_a_pause(self):
        stations, kinds = ["a 1 1", "b 1 1"], ["x 0 a:3 b:5"]
        self.check(EXAMPLE, simple(stations, kinds, "0 x 3 x 4 x", [("b", 3, 7)]),
                   (4, (3, "begin", 0, "b"), (3, "come", 1, "a")))

    def test_a_duration(self):
        stations = ["a 1 1", "b 1 1"]
        self.check(EXAMPLE, simple(stations, ["x 0 a:3 b:4"], "0 x 3 x 4 x"),
                   (10, (8, "end", 0, "b"), (7, "end", 0, "b")))
        self.check(EXAMPLE, simple(stations, ["x 0 a:2 b:5"], "0 x 3 x 4 x"),
                   (2, (3, "end", 0, "a"), (2, "end", 0, "a")))

    def test_a_room(self):
        made = simple(["a 1 2", "b 1 1"], ["x 0 a:3 b:5"], "0 x 3 x 4 x")
        self.check(EXAMPLE, made, (7, (4, "lost", 2, "a"), (4, "come", 2, "a")))

    def test_a_discipline(self):
        last = simple(["a 1 - last"], ["x 0 a:3", "y 0 a:5", "z 9 a:1"], "0 x 0 y 1 z 2 x")
        self.check(LINE, last, (2, (0, "begin", 0, "a"), (0, "begin", 1, "a")))

    def test_a_priority(self):
        stations = ["a 1 - priority"]
        made = simple(stations, ["x 1 a:3", "y 0 a:3"], "0 x 1 x 1 y")
        other = simple(stations, ["x 1 a:3", "y 2 a:3"], "0 x 1 x 1 y")
        self.check(made, other, (6, (3, "begin", 1, "a"), (3, "begin", 2, "a")))

    def test_names_of_stations(self):
        other = simple(["a 1 1", "c 1 1"], ["x 0 a:3 c:5"], "0 x 3 x 4 x")
        self.check(EXAMPLE, other, (3, (3, "move", 0, "b"), (3, "move", 0, "c")))

    def test_a_trace_that_is_the_beginning_of_the_other_one(self):
        stations, kinds = ["a 1 1", "b 1 1"], ["x 0 a:3 b:5"]
        longer = simple(stations, kinds, "0 x 3 x 4 x 50 x")
        self.check(EXAMPLE, longer, (16, None, (50, "come", 3, "a")))
        self.check(simple(stations, kinds, ""), EXAMPLE, (0, None, (0, "come", 0, "a")))
        self.check(EMPTY, simple(stations, kinds, "7 x"), (0, None, (7, "come", 0, "a")))
        stuck = simple(["a 1 1"], ["x 0 a:2 a:3"], "5 x")
        self.check(stuck, simple(["a 1 1"], ["x 0 a:2 a:3"], "5 x 9 x"), (4, None, (9, "lost", 1, "a")))

    def test_many_pairs(self):
        found = []
        for number in range(60):
            made = some_model(number)
            stations, kinds, pauses, jobs = made
            others = [
                (stations, kinds, (), jobs),
                (stations, kinds, pauses, jobs[:-1]),
                (stations, kinds, pauses, (*jobs, (200, kinds[0][0]))),
                (tuple((name, servers, None, word) for name, servers, _, word in stations), kinds, pauses, jobs),
                (tuple((name, servers, room, "last") for name, servers, room, _ in stations), kinds, pauses, jobs),
            ]
            for other in others:
                expected = slow_difference(made, other)
                with self.subTest(number):
                    self.check(made, other, expected)
                found.append(expected)
        self.assertIn(None, found)
        self.assertTrue(any(row and row[1] is None for row in found))

    def test_what_is_ahead_of_a_time_does_not_depend_on_what_is_behind_it(self):
        changed = 0
        for number in range(150):
            chance = random.Random(number)
            made = some_model(number)
            stations, kinds, pauses, jobs = made
            time = chance.randint(0, 15)
            first = [job for job in jobs if job[0] < time]
            more = [(time + chance.randint(0, 6), chance.choice(kinds)[0]) for _ in range(chance.randint(0, 4))]
            pauses = [row for row in pauses if row[1] < time]
            free = [name for name, _, _, _ in stations if all(row[0] != name for row in pauses)]
            later = [(name, time + chance.randint(0, 3), time + 9) for name in free[:chance.randint(0, 2)]]
            other = model(list(stations), list(kinds), pauses + later, first + more)
            self.assertEqual([event for event in event_run(made) if event[0] < time],
                             [event for event in event_run(other) if event[0] < time])
            found = first_difference(made, other)
            if found is not None:
                changed += 1
                self.assertGreaterEqual(min(event[0] for event in found[1:] if event is not None), time)
        self.assertGreater(changed, 50)

    def test_the_kinds_of_values(self):
        found = first_difference(EXAMPLE, EMPTY)
        self.assertEqual([type(part) for part in (found, *found)], [tuple, int, tuple, type(None)])


class LeftOutTest(unittest.TestCase):
    def test_the_first_one_a_middle_one_and_the_last_one(self):
        stations, kinds, pauses, _ = LINE
        self.assertEqual(left_out(LINE, 0), (stations, kinds, pauses, ((0, "y"), (1, "z"), (2, "x"))))
        self.assertEqual(left_out(LINE, 1), (stations, kinds, pauses, ((0, "x"), (1, "z"), (2, "x"))))
        self.assertEqual(left_out(LINE, 2), (stations, kinds, pauses, ((0, "x"), (0, "y"), (2, "x"))))
        self.assertEqual(left_out(LINE, 3), (stations, kinds, pauses, ((0, "x"), (0, "y"), (1, "z"))))

    def test_the_only_one(self):
        made = simple(["a 1 1"], ["x 0 a:3"], "7 x", [("a", 2, 5)])
        self.assertEqual(left_out(made, 0), (*made[:3], ()))
        self.assertEqual(event_run(left_out(made, 0)), [])

    def test_one_of_several_that_are_the_same(self):
        made = simple(["a 1 1"], ["x 0 a:3"], "7 x 7 x 7 x")
        for job in range(3):
            self.assertEqual(left_out(made, job)[3], ((7, "x"), (7, "x")))

    def test_it_is_a_model(self):
        for number in range(60):
            made = some_model(number)
            for job in range(len(made[3])):
                found = left_out(made, job)
                self.assertEqual(found, model(*map(list, found)))
                self.assertEqual(found[:3], made[:3])
                self.assertEqual(found[3], made[3][:job] + made[3][job + 1:])

    def test_jobs_that_are_not_there(self):
        self.assertEqual(left_out(EXAMPLE, 3), EXAMPLE)
        self.assertEqual(left_out(EXAMPLE, -1), EXAMPLE)
        self.assertEqual(left_out(EMPTY, 0), EMPTY)


class DebtTest(unittest.TestCase):
    def check(self, made, rows):
        """Expect the debts of each job, one row for each, to each other one."""
        found = [[debt(made, job, other) for other in range(len(made[3]))] for job in range(len(made[3]))]
        self.assertEqual(found, rows)

    def test_greater_than_0(self):
        self.assertEqual(debt(LINE, 0, 1), 3)
        self.assertEqual(debt(LINE, 1, 2), 5)

    def test_0(self):
        self.assertEqual(debt(LINE, 1, 0), 0)
        self.assertEqual(debt(LINE, 3, 2), 0)

    def test_all_of_a_line(self):
        # Without job 0 the others leave at 5, 6 and 9, with it at 8, 9 and 12; and so on.
        self.check(LINE, [[None, 3, 3, 3], [0, None, 5, 5], [0, 0, None, 1], [0, 0, 0, None]])

    def test_less_than_0(self):
        # Job 0 keeps job 1 from a, so that 1 is ahead of 2 at b, or the other way round.
        made = simple(["a 1 1", "b 1 -"], ["p 0 a:2", "q 0 a:1 b:20", "r 0 b:3"], "0 p 1 q 4 r")
        self.assertEqual(debt(made, 0, 2), -18)
        self.check(made, [[None, None, -18], [0, None, 0], [0, None, None]])

    def test_less_than_0_where_both_leave(self):
        # With job 0, job 1 comes to b behind 2; without it, it comes ahead of it.
        made = simple(["a 1 -", "b 1 -"], ["p 0 a:4", "q 0 a:1 b:20", "r 0 b:3"], "0 p 0 q 2 r")
        self.assertEqual([row for row in event_run(made) if row[1] == "leave"],
                         [(4, "leave", 0, "a"), (5, "leave", 2, "b"), (25, "leave", 1, "b")])
        self.check(made, [[None, 4, -19], [0, None, 0], [0, 0, None]])

    def test_the_job_itself(self):
        for made in (LINE, EXAMPLE):
            for job in range(3):
                self.assertIsNone(debt(made, job, job))

    def test_where_the_other_one_does_not_leave_with_the_job(self):
        # Job 2 of the example is lost with the others, and comes in time without job 1.
        self.assertIsNone(debt(EXAMPLE, 1, 2))
        self.assertIsNone(debt(EXAMPLE, 0, 2))
        self.check(EXAMPLE, [[None, 2, None], [0, None, None], [0, 0, None]])

    def test_where_the_other_one_does_not_leave_without_the_job(self):
        # Job 0 fills a, so that job 1 is lost and does not keep job 2 from b.
        made = simple(["a 1 1", "b 1 1"], ["p 0 a:5", "q 0 a:1 b:9", "r 0 b:2"], "0 p 1 q 3 r")
        self.assertEqual([row for row in event_run(left_out(made, 0)) if row[1] == "lost"], [(3, "lost", 1, "b")])
        self.assertIn((5, "leave", 2, "b"), event_run(made))
        self.check(made, [[None, None, None], [0, None, 0], [0, None, None]])

    def test_where_the_other_one_is_stuck(self):
        made = simple(["a 1 1", "b 1 1"], ["p 0 a:2 b:1", "q 0 b:3 a:1", "r 0 a:1"], "0 p 0 q 9 r")
        self.check(made, [[None, None, None], [None, None, None], [None, None, None]])
        made = simple(["a 1 1"], ["x 0 a:2 a:3", "y 0 a:1"], "0 y 5 x 6 y")
        self.check(made, [[None, None, None], [0, None, None], [0, None, None]])

    def test_two_jobs(self):
        self.check(simple(["a 1 -"], ["x 0 a:3"], "0 x 0 x"), [[None, 3], [0, None]])
        self.check(simple(["a 2 -"], ["x 0 a:3"], "0 x 0 x"), [[None, 0], [0, None]])

    def test_many_models(self):
        found = []
        for number in range(60):
            made = some_model(number, most=7)
            leaving = {job: time for time, word, job, _ in slow_trace(made) if word == "leave"}
            for job in range(len(made[3])):
                rest = slow_trace((*made[:3], made[3][:job] + made[3][job + 1:]))
                without = {who + (who >= job): time for time, word, who, _ in rest if word == "leave"}
                for other in range(len(made[3])):
                    expected = leaving[other] - without[other] if other in leaving and other in without else None
                    with self.subTest(number, job=job, other=other):
                        self.assertEqual(debt(made, job, other), expected)
                    found.append(expected)
        known = [many for many in found if many is not None]
        self.assertLess(min(known), 0)
        self.assertGreater(max(known), 0)
        self.assertIn(0, known)

    def test_a_job_that_is_not_there(self):
        self.assertIsNone(debt(LINE, 0, 4))
        self.assertIsNone(debt(LINE, 0, 40))

    def test_the_kind_of_value(self):
        self.assertIs(type(debt(LINE, 0, 1)), int)


class NothingIsModifiedTest(unittest.TestCase):
    def test_the_arguments_stay(self):
        for made in (EXAMPLE, EMPTY, LINE):
            before = copy.deepcopy((made, EXAMPLE))
            first_difference(made, EXAMPLE)
            first_difference(EXAMPLE, made)
            left_out(made, 0)
            debt(made, 0, 1)
            debt(made, 1, 0)
            self.assertEqual((made, EXAMPLE), before)


class InterfaceTest(unittest.TestCase):
    def test_names_and_arguments(self):
        arguments = {
            "first_difference": ["some_model", "other"],
            "left_out": ["some_model", "job"],
            "debt": ["some_model", "job", "other"],
        }
        for name, expected in arguments.items():
            with self.subTest(name):
                function = getattr(changes, name)
                self.assertEqual(list(inspect.signature(function).parameters), expected)
                self.assertEqual(function.__module__, changes.__name__)


if __name__ == "__main__":
    unittest.main()
