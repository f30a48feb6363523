import copy
import inspect
import unittest

from eventsteps import parts as parts_module
from eventsteps.models import model
from eventsteps.parts import jobs_of_parts, parts
from eventsteps.rings import ring, stuck
from eventsteps.runs import event_run
from reference import simple, slow_trace, some_model, stations_of

ONE = simple(["a 1 1", "b 1 1"], ["x 0 a:3 b:5"], "0 x 3 x 4 x", [("a", 2, 4)])
# a with d, b alone, c with e and f; the kinds s and u have no jobs.
SEVERAL = simple(
    ["a 1 1", "b 2 -", "c 1 1 last", "d 1 2 priority", "e 1 1", "f 3 4"],
    ["p 4 a:1 d:2", "q 0 e:3 c:1", "r 1 b:2 b:2", "s 0 f:9 e:9", "t 3 d:1", "u 0 b:1"],
    "0 q 0 r 1 t 1 p 2 q 5 r 5 q 5 p",
    [("a", 3, 4), ("a", 7, 9), ("d", 1, 3), ("e", 0, 2), ("f", 5, 6)],
)


def slow_groups(made):
    """The sets of stations that belong together, by going from station to station."""
    met = [{name for name, _ in route} for _, _, route in made[1]]
    groups = []
    for name, _, _, _ in made[0]:
        group = {name}
        for _ in range(10):
            group = group.union(*[names for names in met if names & group])
        if group not in groups:
            groups.append(group)
    return groups


class PartsTest(unittest.TestCase):
    def check(self, made, *expected):
        """Expect parts, each told by its stations, kinds and jobs as words."""
        found = [(" ".join(row[0] for row in part[0]), " ".join(row[0] for row in part[1]), numbers)
                 for part, numbers in zip(parts(made), jobs_of_parts(made), strict=True)]
        self.assertEqual(found, list(expected))

    def test_one_part_is_the_model(self):
        self.assertEqual(parts(ONE), [ONE])
        self.assertEqual(jobs_of_parts(ONE), [[0, 1, 2]])

    def test_a_single_station(self):
        made = simple(["a 1 1"], ["x 0 a:3"], "")
        self.assertEqual(parts(made), [made])
        self.assertEqual(jobs_of_parts(made), [[]])

    def test_several_parts(self):
        self.check(SEVERAL, ("a d", "p t", [2, 3, 7]), ("b", "r u", [1, 5]), ("c e f", "q s", [0, 4, 6]))
        self.assertEqual(parts(SEVERAL), [
            simple(["a 1 1", "d 1 2 priority"], ["p 4 a:1 d:2", "t 3 d:1"], "1 t 1 p 5 p",
                   [("a", 3, 4), ("a", 7, 9), ("d", 1, 3)]),
            simple(["b 2 -"], ["r 1 b:2 b:2", "u 0 b:1"], "0 r 5 r"),
            simple(["c 1 1 last", "e 1 1", "f 3 4"], ["q 0 e:3 c:1", "s 0 f:9 e:9"], "0 q 2 q 5 q",
                   [("e", 0, 2), ("f", 5, 6)]),
        ])

    def test_a_station_without_kinds(self):
        made = simple(["a 1 1", "b 1 1", "c 2 5"], ["x 0 c:1 a:1"], "0 x 4 x", [("a", 1, 2), ("b", 3, 4)])
        self.check(made, ("a c", "x", [0, 1]), ("b", "", []))
        self.assertEqual(parts(made)[1], (tuple(stations_of("b 1 1")), (), (("b", 3, 4),), ()))
        self.assertEqual(event_run(parts(made)[1]), [])

    def test_all_other_stations_without_kinds(self):
        made = simple(["a 1 1", "b 1 1", "c 1 1", "d 1 1"], ["x 0 c:1"], "2 x")
        self.check(made, ("a", "", []), ("b", "", []), ("c", "x", [0]), ("d", "", []))

    def test_by_way_of_a_third_station(self):
        stations = ["a 1 1", "b 1 1", "c 1 1"]
        self.check(simple(stations, ["p 0 a:1 c:1", "q 0 b:1 c:1"], "0 p 1 q 2 p"), ("a b c", "p q", [0, 1, 2]))
        self.check(simple(stations, ["p 0 a:1 b:1", "q 0 b:1 c:1"], "0 q"), ("a b c", "p q", [0]))
        self.check(simple(stations, ["p 0 c:1 b:1", "q 0 a:1 c:1"], "0 q"), ("a b c", "p q", [0]))

    def test_by_way_of_many_others(self):
        stations = [f"{name} 1 1" for name in "abcdef"]
        made = simple(stations, ["p 0 a:1 f:1", "q 0 b:1 e:1", "r 0 e:1 f:1", "s 0 c:1 d:1"], "0 s 0 p 0 q")
        self.check(made, ("a b e f", "p q r", [1, 2]), ("c d", "s", [0]))
        made = simple(stations, ["p 0 e:1 f:1", "q 0 c:1 d:1", "r 0 d:1 e:1", "s 0 f:1 b:1", "t 0 b:1 a:1"], "")
        self.check(made, ("a b c d e f", "p q r s t", []))

    def test_steps_that_are_not_side_by_side(self):
        made = simple(["a 1 1", "b 1 1", "c 1 1", "d 1 1"], ["p 0 a:1 b:1 c:1", "q 0 d:1 a:1 d:1"], "0 p")
        self.check(made, ("a b c d", "p q", [0]))

    def test_only_kinds_join_stations(self):
        made = simple(["a 1 1", "b 1 1"], ["p 0 a:1 a:2", "q 0 b:1 b:2 b:3"], "0 p 0 q", [("a", 0, 5), ("b", 0, 5)])
        self.check(made, ("a", "p", [0]), ("b", "q", [1]))

    def test_kinds_without_jobs_join_them_too(self):
        made = simple(["a 1 1", "b 1 1"], ["p 0 a:1", "q 0 b:1", "r 0 a:1 b:1"], "0 p 0 q")
        self.check(made, ("a b", "p q r", [0, 1]))

    def test_the_order_is_that_of_the_first_stations(self):
        # The kinds and the jobs are in another order than the stations.
        made = simple(["a 1 1", "b 1 1", "c 1 1", "d 1 1"], ["p 0 d:1 c:1", "q 0 b:1", "r 0 a:1"], "0 p 1 q 2 r 3 p")
        self.check(made, ("a", "r", [2]), ("b", "q", [1]), ("c d", "p", [0, 3]))

    def test_jobs_of_one_time_stay_in_their_order(self):
        made = simple(["a 1 1", "b 1 1"], ["p 0 a:1", "q 0 b:1", "r 0 a:2"], "5 r 5 q 5 p 5 q 5 r 5 p")
        self.check(made, ("a", "p r", [0, 2, 4, 5]), ("b", "q", [1, 3]))
        self.assertEqual(parts(made)[0][3], ((5, "r"), (5, "p"), (5, "r"), (5, "p")))

    def test_many_models(self):
        numbers_of_parts = []
        for number in range(200):
            made = some_model(number)
            groups = slow_groups(made)
            with self.subTest(number):
                self.check(made, *[(
                    " ".join(sorted(group)),
                    " ".join(name for name, _, route in made[1] if route[0][0] in group),
                    [job for job, (_, kind) in enumerate(made[3])
                     if any(name == kind and route[-1][0] in group for name, _, route in made[1])],
                ) for group in groups])
            numbers_of_parts.append(len(groups))
        self.assertEqual(set(numbers_of_parts), {1, 2, 3, 4})

    def test_each_part_is_a_model(self):
        for number in range(200):
            made = some_model(number)
            for part, numbers in zip(parts(made), jobs_of_parts(made), strict=True):
                with self.subTest(number):
                    self.assertEqual([type(rows) for rows in part], [tuple] * 4)
                    self.assertEqual(part[3], tuple(made[3][job] for job in numbers))
                    if part[1]:
                        self.assertEqual(part, model(*map(list, part)))
                    else:
                        self.assertEqual(len(part[0]), 1)
                        self.assertEqual(part[3], ())

    def test_the_parts_make_the_whole(self):
        for number in range(200):
            made = some_model(number)
            for at in range(3):
                self.assertEqual(sorted(row for part in parts(made) for row in part[at]), sorted(made[at]))
            self.assertEqual(sorted(job for numbers in jobs_of_parts(made) for job in numbers), list(range(len(made[3]))))


class TraceTest(unittest.TestCase):
    def check(self, made):
        """Expect the events of a part's jobs, in the slow trace of the whole model, to be the part's own trace."""
        trace = slow_trace(made)
        for part, numbers in zip(parts(made), jobs_of_parts(made), strict=True):
            events = [(time, word, numbers.index(job), name) for time, word, job, name in trace if job in numbers]
            self.assertEqual(event_run(part), events)

    def test_the_models_above(self):
        self.check(ONE)
        self.check(SEVERAL)

    def test_many_models(self):
        for number in range(200):
            with self.subTest(number):
                self.check(some_model(number))

    def test_parts_that_get_stuck(self):
        made = simple(
            ["a 1 1", "b 1 1", "c 1 1", "d 1 1", "e 1 1"],
            ["p 0 a:2 c:1", "q 0 c:3 a:1", "r 0 b:1 e:1", "s 0 d:1 d:1"],
            "0 r 0 q 0 s 0 r 0 p 2 s",
        )
        self.check(made)
        self.assertEqual(jobs_of_parts(made), [[1, 4], [0, 3], [2, 5]])
        self.assertEqual([stuck(part) for part in parts(made)], [[0, 1], [], [0]])
        self.assertEqual([ring(part) for part in parts(made)], [[0, 1], None, [0]])
        self.assertEqual(stuck(made), [1, 2, 4])
        self.assertEqual(ring(made), [1, 4])

    def test_who_is_stuck_is_so_in_its_part(self):
        for number in range(100):
            made = some_model(number)
            rows = zip(parts(made), jobs_of_parts(made), strict=True)
            found = sorted(numbers[job] for part, numbers in rows for job in stuck(part))
            self.assertEqual(found, stuck(made))


class NothingIsModifiedTest(unittest.TestCase):
    def test_the_argument_stays(self):
        for made in (ONE, SEVERAL):
            before = copy.deepcopy(made)
            parts(made)
            jobs_of_parts(made)
            self.assertEqual(made, before)

    def test_lists_are_new(self):
        for call in (parts, jobs_of_parts):
            for made in (ONE, SEVERAL):
                expected = call(made)
                answer = call(made)
                answer.reverse()
                answer.append("nothing")
                self.assertEqual(call(made), expected)
        answer = jobs_of_parts(SEVERAL)
        answer[0].clear()
        answer[1].append(9)
        self.assertEqual(jobs_of_parts(SEVERAL), [[2, 3, 7], [1, 5], [0, 4, 6]])

    def test_the_kinds_of_values(self):
        self.assertIs(type(parts(ONE)), list)
        self.assertEqual([type(part) for part in parts(SEVERAL)], [tuple] * 3)
        self.assertIs(type(jobs_of_parts(ONE)), list)
        self.assertEqual([type(numbers) for numbers in jobs_of_parts(SEVERAL)], [list] * 3)


class InterfaceTest(unittest.TestCase):
    def test_names_and_arguments(self):
        for name in ("parts", "jobs_of_parts"):
            with self.subTest(name):
                function = getattr(parts_module, name)
                self.assertEqual(list(inspect.signature(function).parameters), ["some_model"])
                self.assertEqual(function.__module__, parts_module.__name__)


if __name__ == "__main__":
    unittest.main()
