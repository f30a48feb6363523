import copy
import inspect
import random
import unittest

from eventsteps import bounds
from eventsteps.bounds import bottleneck, job_bound, slack, station_bound, work
from eventsteps.models import model
from eventsteps.runs import event_run, shifted, stretched
from reference import simple, slow_trace, some_kinds, some_model, some_pauses

EXAMPLE = simple(["a 1 1", "b 1 1"], ["x 0 a:3 b:5"], "0 x 3 x 4 x")
EMPTY = simple(["a 1 1", "b 2 -"], ["x 0 a:3 b:5"], "", [("a", 2, 5)])
# p comes to a twice; nobody comes to c, and only a kind without jobs to d.
TWICE = simple(["a 2 -", "b 3 -", "c 1 1", "d 1 1"], ["p 0 a:3 b:7 a:4", "q 0 b:2 a:6", "r 0 d:9"], "5 p 6 q 8 q")


def roomy_model(number):
    """A model in which nothing is lost and nothing gets stuck, since all stations have room for all jobs."""
    chance = random.Random(number)
    stations = [(name, chance.randint(1, 3), None, "first") for name in "abcd"[:chance.randint(1, 4)]]
    kinds = some_kinds(chance, stations, 9)
    pauses = some_pauses(chance, stations, chance.choice((1, 12)))
    jobs = [(chance.randint(0, 15), chance.choice(kinds)[0]) for _ in range(chance.choice((1, 2, 3, 9)))]
    return model(stations, kinds, pauses, jobs)


def slow_steps(made, name):
    """For each step of a job at a station: the job's time, and the durations ahead of it, its own, and those behind it."""
    routes = {kind: route for kind, _, route in made[1]}
    rows = []
    for time, kind in made[3]:
        ahead, behind = [], [duration for _, duration in routes[kind]]
        for station, duration in routes[kind]:
            behind.pop(0)
            if station == name:
                rows.append((time, list(ahead), duration, list(behind)))
            ahead.append(duration)
    return rows


class WorkTest(unittest.TestCase):
    def test_the_durations_of_all_jobs(self):
        # Lost jobs count as well: job 2 of the example is lost.
        self.assertEqual(work(EXAMPLE, "a"), 9)
        self.assertEqual(work(EXAMPLE, "b"), 15)

    def test_a_station_that_a_route_comes_to_twice(self):
        self.assertEqual(work(TWICE, "a"), 3 + 4 + 6 + 6)
        self.assertEqual(work(TWICE, "b"), 7 + 2 + 2)

    def test_a_station_that_no_job_comes_to(self):
        self.assertEqual(work(TWICE, "c"), 0)
        self.assertEqual(work(TWICE, "d"), 0)

    def test_without_jobs(self):
        self.assertEqual(work(EMPTY, "a"), 0)
        self.assertEqual(work(EMPTY, "b"), 0)

    def test_many_models(self):
        for number in range(100):
            made = some_model(number)
            for name, _, _, _ in made[0]:
                self.assertEqual(work(made, name), sum(duration for _, _, duration, _ in slow_steps(made, name)))

    def test_what_is_worked_where_all_jobs_leave(self):
        for number in range(50):
            made = roomy_model(number)
            durations = {}
            for time, word, job, name in slow_trace(made):
                if word in ("begin", "end"):
                    durations[name] = durations.get(name, 0) + (time if word == "end" else -time)
            for name, _, _, _ in made[0]:
                self.assertEqual(work(made, name), durations.get(name, 0))


class StationBoundTest(unittest.TestCase):
    def check(self, made, **expected):
        for name, bound in expected.items():
            with self.subTest(name):
                self.assertEqual(station_bound(made, name), bound)

    def test_the_example(self):
        self.check(EXAMPLE, a=0 + 9 + 5, b=3 + 15 + 0)

    def test_early_is_the_least_time_at_which_a_step_can_begin(self):
        stations = ["a 1 -", "b 1 -"]
        kinds = ["p 0 a:3 b:5", "q 0 b:4", "r 0 a:1 b:6"]
        self.check(simple(stations, kinds, "2 p"), a=2 + 3 + 5, b=2 + 3 + 5)
        self.check(simple(stations, kinds, "2 p 4 q"), b=4 + 9 + 0)
        self.check(simple(stations, kinds, "2 p 5 q"), b=5 + 9 + 0)
        self.check(simple(stations, kinds, "2 p 6 q"), b=5 + 9 + 0)
        self.check(simple(stations, kinds, "2 p 3 r"), a=2 + 4 + 5, b=4 + 11 + 0)
        self.check(simple(stations, kinds, "2 p 7 r"), a=2 + 4 + 5, b=5 + 11 + 0)

    def test_full_is_rounded_up(self):
        for servers, full in ((1, 19), (2, 10), (3, 7), (4, 5)):
            made = simple([f"a {servers} -"], ["x 0 a:6", "y 0 a:1"], "0 x 0 x 0 x 0 y")
            self.check(made, a=full)
        for servers, full in ((1, 12), (2, 6), (3, 4), (4, 3)):
            self.check(simple([f"a {servers} -"], ["x 0 a:4"], "0 x 0 x 0 x"), a=full)
        self.check(simple(["a 4 4"], ["x 0 a:1"], "0 x"), a=1)

    def test_late_is_the_least_sum_behind_a_step(self):
        stations = ["a 1 -", "b 1 -", "c 1 -"]
        kinds = ["p 0 a:1 b:5 c:4", "q 0 a:1 c:7", "r 0 a:1 b:2 c:1 b:3"]
        self.check(simple(stations, kinds, "0 p"), a=0 + 1 + 9, b=1 + 5 + 4, c=6 + 4 + 0)
        self.check(simple(stations, kinds, "0 p 0 q"), a=0 + 2 + 7, b=1 + 5 + 4, c=1 + 11 + 0)
        self.check(simple(stations, kinds, "0 p 0 r"), a=0 + 2 + 6, b=1 + 10 + 0, c=3 + 5 + 0)
        self.check(simple(stations, kinds, "0 r"), a=0 + 1 + 6, b=1 + 5 + 0, c=3 + 1 + 3)

    def test_early_and_late_may_come_from_different_jobs(self):
        made = simple(["a 1 -", "b 1 -"], ["p 0 a:2 b:9", "q 0 b:7 a:3"], "0 p 0 q")
        self.check(made, a=0 + 5 + 0, b=0 + 16 + 0)

    def test_a_route_that_comes_to_the_station_twice(self):
        # At a the steps can begin at 5, 15, 8 and 10; at b at 8, 6 and 8.
        self.check(TWICE, a=5 + 10 + 0, b=6 + 4 + 4)

    def test_a_station_without_steps_of_jobs(self):
        self.check(TWICE, c=None, d=None)
        self.check(EMPTY, a=None, b=None)
        self.check(simple(["a 1 1", "b 1 1"], ["x 0 a:3", "y 0 b:3"], "7 y"), a=None, b=10)

    def test_many_models(self):
        for number in range(150):
            made = some_model(number)
            for name, servers, _, _ in made[0]:
                rows = slow_steps(made, name)
                expected = None
                if rows:
                    early = min(time + sum(ahead) for time, ahead, _, _ in rows)
                    total = sum(duration for _, _, duration, _ in rows)
                    full = next(many for many in range(total + 1) if many * servers >= total)
                    expected = early + full + min(sum(behind) for _, _, _, behind in rows)
                with self.subTest(number, name=name):
                    self.check(made, **{name: expected})


class JobBoundTest(unittest.TestCase):
    def test_the_time_and_all_durations(self):
        self.assertEqual([job_bound(EXAMPLE, job) for job in range(3)], [8, 11, 12])
        self.assertEqual([job_bound(TWICE, job) for job in range(3)], [5 + 14, 6 + 8, 8 + 8])

    def test_many_models(self):
        for number in range(60):
            made = some_model(number)
            routes = {name: route for name, _, route in made[1]}
            for job, (time, kind) in enumerate(made[3]):
                self.assertEqual(job_bound(made, job), time + sum(duration for _, duration in routes[kind]))


class BottleneckTest(unittest.TestCase):
    def test_a_station(self):
        self.assertEqual(bottleneck(EXAMPLE), ("station", "b", 18))
        self.assertEqual(bottleneck(simple(["a 1 -", "b 1 -"], ["x 0 a:9 b:5"], "0 x 3 x")), ("station", "a", 23))

    def test_a_job(self):
        made = simple(["a 1 -", "b 1 -"], ["x 0 a:3", "y 0 b:4 a:5"], "0 x 1 y 6 y 7 y")
        self.assertEqual([station_bound(made, "a"), station_bound(made, "b")], [18, 18])
        self.assertEqual(bottleneck(made), ("station", "a", 18))
        made = simple(["a 1 -", "b 1 -"], ["x 0 a:3", "y 0 b:4 a:5"], "0 x 1 y 50 y 60 x")
        self.assertEqual(bottleneck(made), ("job", 3, 63))
        made = simple(["a 1 -", "b 1 -"], ["x 0 a:3", "y 0 b:4 a:5"], "0 x 1 y 58 y 60 x")
        self.assertEqual(bottleneck(made), ("job", 2, 67))

    def test_a_station_ahead_of_a_job_with_the_same_bound(self):
        self.assertEqual(bottleneck(simple(["a 1 -"], ["x 0 a:3"], "4 x")), ("station", "a", 7))
        self.assertEqual(bottleneck(simple(["a 1 -", "b 1 -"], ["x 0 a:3", "y 0 b:1"], "0 y 8 y 6 x")),
                         ("station", "a", 9))

    def test_a_job_that_is_later_by_1_than_all_stations(self):
        made = simple(["a 2 -"], ["x 0 a:3", "y 0 a:4"], "0 x 3 y")
        self.assertEqual((station_bound(made, "a"), job_bound(made, 1)), (4, 7))
        self.assertEqual(bottleneck(made), ("job", 1, 7))
        made = simple(["a 1 -"], ["x 0 a:3", "y 0 a:4"], "0 x 4 y")
        self.assertEqual((station_bound(made, "a"), job_bound(made, 1)), (7, 8))
        self.assertEqual(bottleneck(made), ("job", 1, 8))

    def test_the_first_of_several_stations(self):
        made = simple(["a 1 -", "b 1 -", "c 1 -"], ["x 0 c:3 b:3", "y 0 a:1"], "0 x 0 x 0 y")
        self.assertEqual([station_bound(made, name) for name in "abc"], [1, 9, 9])
        self.assertEqual(bottleneck(made), ("station", "b", 9))

    def test_the_first_of_several_jobs(self):
        made = simple(["a 4 -"], ["x 0 a:9", "y 0 a:6", "z 0 a:5"], "0 z 3 x 6 y 7 z")
        self.assertEqual([job_bound(made, job) for job in range(4)], [5, 12, 12, 12])
        self.assertEqual(station_bound(made, "a"), 7)
        self.assertEqual(bottleneck(made), ("job", 1, 12))

    def test_stations_that_no_job_comes_to(self):
        made = simple(["a 1 -", "b 1 -"], ["x 0 b:3"], "4 x")
        self.assertEqual(bottleneck(made), ("station", "b", 7))

    def test_without_jobs(self):
        self.assertIsNone(bottleneck(EMPTY))

    def test_many_models(self):
        words = []
        for number in range(150):
            made = some_model(number) if number % 2 else roomy_model(number)
            rows = [("station", name, station_bound(made, name)) for name, _, _, _ in made[0]]
            rows += [("job", job, job_bound(made, job)) for job in range(len(made[3]))]
            rows = [row for row in rows if row[2] is not None]
            expected = next((row for row in rows if all(row[2] >= other[2] for other in rows)), None)
            self.assertEqual(bottleneck(made), expected)
            words.append(expected and expected[0])
        self.assertEqual(set(words), {"station", "job", None})

    def test_the_kinds_of_values(self):
        self.assertEqual([type(bottleneck(EXAMPLE)), *map(type, bottleneck(EXAMPLE))], [tuple, str, str, int])


class SlackTest(unittest.TestCase):
    def test_0(self):
        self.assertEqual(slack(simple(["a 1 -"], ["x 0 a:3"], "4 x")), 0)
        self.assertEqual(slack(simple(["a 1 -", "b 1 -"], ["x 0 a:3 b:5"], "0 x 3 x")), 0)

    def test_more_than_0(self):
        self.assertEqual(slack(simple(["a 1 -"], ["x 0 a:3"], "4 x", [("a", 0, 6)])), 2)
        made = simple(["a 2 -"], ["x 0 a:2", "y 0 a:4"], "0 x 0 x 0 y")
        self.assertEqual(event_run(made)[-1], (6, "leave", 2, "a"))
        self.assertEqual((bottleneck(made), slack(made)), (("station", "a", 4), 2))

    def test_the_last_event_need_not_be_of_the_bottleneck(self):
        made = simple(["a 1 -", "b 1 -"], ["x 0 a:9", "y 0 b:4"], "0 x 0 x 3 y", [("b", 0, 30)])
        self.assertEqual(event_run(made)[-1], (34, "leave", 2, "b"))
        self.assertEqual((bottleneck(made), slack(made)), (("station", "a", 18), 16))

    def test_where_something_is_lost(self):
        self.assertIsNone(slack(EXAMPLE))
        self.assertIsNone(slack(simple(["a 1 1"], ["x 0 a:3"], "0 x 2 x 3 x")))
        self.assertEqual(slack(simple(["a 1 1"], ["x 0 a:3"], "0 x 3 x")), 0)

    def test_where_something_is_stuck(self):
        self.assertIsNone(slack(simple(["a 1 1"], ["x 0 a:6 a:9"], "3 x")))
        self.assertIsNone(slack(simple(["a 1 1", "b 1 1"], ["x 0 a:6 a:9", "y 0 b:90"], "3 x 4 y")))

    def test_without_jobs(self):
        self.assertIsNone(slack(EMPTY))

    def test_many_models(self):
        for number in range(150):
            made = some_model(number)
            trace = slow_trace(made)
            if made[3] and all((job, "leave") in [(who, word) for _, word, who, _ in trace] for job in range(len(made[3]))):
                self.assertEqual(slack(made), trace[-1][0] - bottleneck(made)[2])
            else:
                self.assertIsNone(slack(made))

    def test_the_last_event_is_not_ahead_of_any_bound(self):
        found = []
        for number in range(200):
            made = roomy_model(number)
            last = slow_trace(made)[-1][0]
            for name, _, _, _ in made[0]:
                self.assertLessEqual(station_bound(made, name) or 0, last)
            for job in range(len(made[3])):
                self.assertLessEqual(job_bound(made, job), last)
            self.assertEqual(slack(made), last - bottleneck(made)[2])
            found.append(slack(made))
        self.assertEqual(min(found), 0)
        self.assertGreater(max(found), 5)

    def test_shifted_and_stretched(self):
        for number in range(30):
            made = roomy_model(number)
            self.assertEqual(slack(shifted(made, 7)), slack(made))
            # With one server there is nothing to round up.
            alone = (tuple((name, 1, room, word) for name, _, room, word in made[0]), *made[1:])
            self.assertEqual(slack(stretched(alone, 3)), 3 * slack(alone))


class NothingIsModifiedTest(unittest.TestCase):
    def test_the_argument_stays(self):
        for made in (EXAMPLE, EMPTY, TWICE):
            before = copy.deepcopy(made)
            for name, _, _, _ in made[0]:
                work(made, name)
                station_bound(made, name)
            for job in range(len(made[3])):
                job_bound(made, job)
            bottleneck(made)
            slack(made)
            self.assertEqual(made, before)


class InterfaceTest(unittest.TestCase):
    def test_names_and_arguments(self):
        arguments = {
            "work": ["some_model", "name"],
            "station_bound": ["some_model", "name"],
            "job_bound": ["some_model", "job"],
            "bottleneck": ["some_model"],
            "slack": ["some_model"],
        }
        for name, expected in arguments.items():
            with self.subTest(name):
                function = getattr(bounds, name)
                self.assertEqual(list(inspect.signature(function).parameters), expected)
                self.assertEqual(function.__module__, bounds.__name__)

    def test_the_kinds_of_values(self):
        self.assertEqual([type(work(EXAMPLE, "a")), type(station_bound(EXAMPLE, "a")), type(job_bound(EXAMPLE, 0))], [int] * 3)
        self.assertIs(type(slack(simple(["a 1 -"], ["x 0 a:3"], "4 x"))), int)


if __name__ == "__main__":
    unittest.main()
