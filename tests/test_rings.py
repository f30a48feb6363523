import copy
import inspect
import itertools
import random
import unittest

from eventsteps import rings
from eventsteps.models import model
from eventsteps.rings import goes_up, ring, shows_stuck, stuck
from eventsteps.runs import event_run, shifted, stretched
from reference import simple, slow_end, some_kinds, some_model, some_stations

FREE = simple(["a 1 1", "b 1 1"], ["x 0 a:3 b:5"], "0 x 3 x 4 x")
EMPTY = simple(["a 1 1"], ["x 0 a:3"], "")
ALONE = simple(["a 1 1"], ["x 0 a:6 a:9"], "3 x")
TWO = simple(["a 1 1", "b 1 1"], ["p 0 a:2 b:1", "q 0 b:3 a:1"], "0 p 0 q")
# Job 3 leads to 1, 1 to 2 and 2 to 3; job 0 waits behind the ring, ready at d.
BEHIND = simple(["a 1 1", "b 1 1", "c 1 1", "d 1 1"], ["p 0 d:1 a:1", "q 0 b:1 c:1", "r 0 c:1 a:1", "s 0 a:1 b:1"],
                "0 p 0 q 0 r 0 s")
# Jobs 0 and 2 hold the servers of a, 1 the one of b; 3 waits at a, and 4 found it full.
SERVERS = simple(["a 2 3", "b 1 1"], ["p 0 a:2 b:1", "q 0 b:3 a:1"], "0 p 0 q 0 p 1 p 1 p")


def crowded_model(number):
    """A model in which stations soon are full and no step is at the same station as the one behind it."""
    chance = random.Random(number)
    names = "abcd"[:chance.randint(2, 4)]
    stations = []
    for name in names:
        servers = chance.randint(1, 2)
        stations.append((name, servers, chance.randint(servers, servers + 1), chance.choice(("first", "last"))))
    kinds = []
    for kind in "klmnop":
        route = [chance.choice(names)]
        while len(route) < 4:
            route.append(chance.choice([name for name in names if name != route[-1]]))
        kinds.append((kind, 0, tuple((name, chance.randint(1, 4)) for name in route)))
    pauses = [(chance.choice(names), 2, 15)]
    return model(stations, kinds, pauses, [(chance.randint(0, 9), chance.choice("klmnop")) for _ in range(10)])


def slow_ring(jobs):
    """The ring, from the jobs of the slow run: a long walk stays in the ring at last."""
    ready = {job.number: job for job in jobs if job.where == "ready"}
    if not ready:
        return None
    walk = [min(ready)]
    for _ in range(100):
        job = ready[walk[-1]]
        walk.append(min(other for other in ready if ready[other].is_at(job.route[job.step + 1][0], "ready")))
    row = walk[50:]
    least = row.index(min(row))
    again = row.index(row[least], least + 1)
    return row[least:again]


def slowly_shown(made, jobs, numbers):
    """Whether these numbers show that the model gets stuck, word by word as it is told in the document."""
    if not numbers or len(set(numbers)) != len(numbers) or not set(numbers) <= set(range(len(jobs))):
        return False
    for number, after in zip(numbers, numbers[1:] + numbers[:1]):
        job = jobs[number]
        if job.where != "ready":
            return False
        name = job.route[job.step + 1][0]
        _, servers, room, _ = next(station for station in made[0] if station[0] == name)
        there = [other for other in jobs if other.is_at(name, "waiting", "served", "ready")]
        holders = [other.number for other in there if other.where == "ready"]
        if len(there) != room or len(holders) != servers or after not in holders:
            return False
    return True


class RingTest(unittest.TestCase):
    def check(self, made, stuck_jobs, ring_of_jobs):
        self.assertEqual(stuck(made), stuck_jobs)
        self.assertEqual(ring(made), ring_of_jobs)

    def test_nobody_is_stuck(self):
        for made in (FREE, EMPTY, simple(["a 1 1"], ["x 0 a:3"], "0 x 1 x 2 x")):
            self.check(made, [], None)

    def test_a_job_that_waits_for_its_own_place(self):
        self.check(ALONE, [0], [0])

    def test_a_job_at_the_same_station_again_in_a_room_that_is_full_of_others(self):
        self.check(simple(["a 1 2"], ["x 0 a:4 a:1"], "0 x 1 x"), [0, 1], [0])
        self.check(simple(["a 2 2"], ["x 0 a:4 a:1"], "0 x 1 x"), [0, 1], [0])
        self.check(simple(["a 2 2"], ["x 0 a:4 a:1", "y 0 a:9"], "0 x 1 y"), [], None)
        self.check(simple(["a 1 2"], ["x 0 a:4 a:1"], "0 x 5 x"), [], None)
        self.check(simple(["a 1 2"], ["x 0 a:4 a:1"], "0 x"), [], None)

    def test_two_jobs_that_hold_the_servers_of_each_other(self):
        self.check(TWO, [0, 1], [0, 1])

    def test_a_ring_of_three_and_one_behind_it(self):
        self.check(BEHIND, [0, 1, 2, 3], [1, 2, 3])

    def test_a_ring_goes_on_from_its_least_job_in_its_own_order(self):
        made = simple(["a 1 1", "b 1 1", "c 1 1"], ["p 0 a:1 b:1", "q 0 c:1 a:1", "r 0 b:1 c:1"], "0 p 0 q 0 r")
        self.check(made, [0, 1, 2], [0, 2, 1])

    def test_a_tail_of_more_than_one_job(self):
        made = simple(["a 1 1", "b 1 1", "c 1 1", "d 1 1"],
                      ["p 0 c:1 d:1", "q 0 d:1 a:1", "r 0 b:1 a:1", "s 0 a:1 b:1"], "0 p 0 q 0 r 0 s")
        self.check(made, [0, 1, 2, 3], [2, 3])

    def test_jobs_that_wait_at_the_stations_of_a_ring(self):
        made = simple(["a 1 3", "b 1 1"], ["p 0 a:2 b:1", "q 0 b:3 a:1"], "0 p 0 q 1 p 1 p 1 p")
        self.assertEqual(event_run(made)[-1], (3, "block", 1, "b"))
        self.check(made, [0, 1, 2, 3], [0, 1])

    def test_lost_jobs_and_those_that_have_left_are_not_stuck(self):
        made = simple(["a 1 1", "b 1 1", "c 1 1"], ["p 0 a:2 b:1", "q 0 b:3 a:1", "r 0 c:4"], "0 r 0 p 0 q 1 p 1 r 6 q")
        self.assertEqual([job for _, word, job, _ in event_run(made) if word == "lost"], [3, 4, 5])
        self.check(made, [1, 2], [1, 2])

    def test_the_least_of_several_that_hold_the_servers(self):
        # Job 2 is ready ahead of 0, but the least number counts.
        self.check(SERVERS, [0, 1, 2, 3], [0, 1])
        made = simple(["a 2 2", "b 1 1"], ["p 0 a:4 b:1", "q 0 b:3 a:1", "r 0 a:1 b:1"], "0 q 0 p 0 r")
        self.assertEqual([job for _, word, job, _ in event_run(made) if word == "block"], [2, 0, 1])
        self.check(made, [0, 1, 2], [0, 1])

    def test_the_first_of_two_rings(self):
        stations = ["a 1 1", "b 1 1", "c 1 1", "d 1 1"]
        kinds = ["p 0 a:7 b:1", "q 0 b:8 a:1", "r 0 c:1 d:1", "s 0 d:2 c:1"]
        self.check(simple(stations, kinds, "0 p 0 q 0 r 0 s"), [0, 1, 2, 3], [0, 1])
        self.check(simple(stations, kinds, "0 s 0 q 0 r 0 p"), [0, 1, 2, 3], [0, 2])

    def test_one_that_waits_has_a_lesser_number_than_those_of_the_ring(self):
        made = simple(["a 1 2 last", "b 1 1"], ["p 0 a:2 b:1", "q 0 b:3 a:1"], "0 p 0 p 0 q")
        self.assertIn((0, "begin", 1, "a"), event_run(made))
        self.check(made, [0, 1, 2], [1, 2])

    def test_behind_pauses_that_end(self):
        kinds = ["p 0 a:2 b:1", "q 0 b:3 a:1"]
        made = simple(["a 1 1", "b 1 1"], kinds, "0 p 0 q", [("a", 0, 50), ("b", 0, 90)])
        self.assertEqual(event_run(made)[-1], (93, "block", 1, "b"))
        self.check(made, [0, 1], [0, 1])
        # The other one leaves b ahead of the end of the pause of a, at which the first one begins.
        made = simple(["a 1 2", "b 1 1"], kinds, "0 p 0 q", [("a", 0, 50)])
        self.check(made, [], None)
        made = simple(["a 1 1", "b 1 1"], kinds, "0 p 4 q", [("a", 0, 1), ("b", 4, 9000)])
        self.assertEqual(event_run(made)[-1], (9004, "leave", 1, "a"))
        self.check(made, [], None)

    def test_a_long_time_behind_the_others(self):
        made = simple(["a 1 1", "b 1 1"], ["p 0 a:2 b:1", "q 0 b:3 a:1", "r 0 a:1"], "0 r 1 r 10000 p 10000 q")
        self.check(made, [2, 3], [2, 3])

    def test_many_models(self):
        lengths = []
        for made in [crowded_model(number) for number in range(250)] + [some_model(number) for number in range(100)]:
            jobs = slow_end(made)
            with self.subTest(made):
                self.check(made, [job.number for job in jobs if job.where not in ("left", "lost")], slow_ring(jobs))
            lengths.append(len(ring(made) or []))
        for length in range(4):
            self.assertIn(length, lengths)

    def test_the_ring_is_of_stuck_jobs(self):
        for number in range(100):
            made = crowded_model(number)
            found = ring(made)
            self.assertEqual(found is None, stuck(made) == [])
            if found is not None:
                self.assertLessEqual(set(found), set(stuck(made)))
                self.assertEqual(found[0], min(found))
                self.assertEqual(len(set(found)), len(found))

    def test_shifted_and_stretched(self):
        for number in range(80):
            made = crowded_model(number)
            for many in (1, 2, 9, 1000):
                for other in (shifted(made, many), stretched(made, many)):
                    with self.subTest(number, many=many):
                        self.check(other, stuck(made), ring(made))

    def test_the_kinds_of_values(self):
        self.assertIs(type(stuck(TWO)), list)
        self.assertIs(type(stuck(FREE)), list)
        self.assertIs(type(ring(TWO)), list)


class ShowsStuckTest(unittest.TestCase):
    def check(self, made, yes=(), no=()):
        for jobs in yes:
            with self.subTest(jobs=jobs):
                self.assertIs(shows_stuck(made, jobs), True)
        for jobs in no:
            with self.subTest(jobs=jobs):
                self.assertIs(shows_stuck(made, jobs), False)

    def test_the_ring_shows_it_and_so_does_the_ring_turned(self):
        self.check(ALONE, yes=[[0]])
        self.check(TWO, yes=[[0, 1], [1, 0]])
        self.check(BEHIND, yes=[[1, 2, 3], [2, 3, 1], [3, 1, 2]])
        for number in range(150):
            made = crowded_model(number)
            found = ring(made)
            if found is not None:
                self.check(made, yes=[found[at:] + found[:at] for at in range(len(found))])

    def test_the_ring_in_another_order_does_not(self):
        self.check(BEHIND, no=[[1, 3, 2], [3, 2, 1], [2, 1, 3]])

    def test_the_empty_list(self):
        for made in (ALONE, TWO, BEHIND, FREE, EMPTY):
            self.check(made, no=[[]])

    def test_a_job_twice(self):
        self.check(ALONE, no=[[0, 0]])
        self.check(TWO, no=[[0, 1, 0, 1], [0, 0], [0, 0, 1, 1], [0, 1, 1], [1, 0, 1, 0]])

    def test_a_job_left_out(self):
        self.check(TWO, no=[[0], [1]])
        self.check(BEHIND, no=[[1, 2], [2, 3], [1, 3], [3, 1], [2, 1], [3, 2], [1], [2], [3]])

    def test_one_too_many(self):
        # Job 0 is ready and what it waits for is in the ring, but nobody in the ring waits for it.
        self.check(BEHIND, no=[[0, 1, 2, 3], [0, 3, 1, 2], [3, 1, 2, 0], [1, 2, 3, 0], [1, 0, 2, 3], [0]])
        self.check(TWO, no=[[0, 1, 2], [2, 0, 1], [0, 2, 1]])

    def test_numbers_that_are_no_jobs(self):
        self.check(TWO, no=[[-1], [-2], [2], [-1, 0], [0, -1], [-2, -1], [-1, -2], [0, 1, -1], [100], [0, 100], [10 ** 9]])
        self.check(ALONE, no=[[-1], [1], [0, 1], [0, -1]])
        self.check(EMPTY, no=[[0], [-1], [1]])

    def test_jobs_that_wait_or_have_left_or_were_lost(self):
        made = simple(["a 1 2", "b 1 1", "c 1 1"], ["p 0 a:2 b:1", "q 0 b:3 a:1", "r 0 c:4"],
                      "0 r 0 p 0 q 1 p 1 r 6 q")
        self.assertEqual([job for _, word, job, _ in event_run(made) if word == "lost"], [4, 5])
        self.check(made, yes=[[1, 2], [2, 1]], no=[[0], [3], [4], [5], [0, 1, 2], [1, 2, 3], [3, 2], [2, 3], [1, 2, 4],
                                                  [1, 2, 5], [4, 5]])

    def test_where_nothing_is_stuck(self):
        self.check(FREE, no=[[0], [1], [2], [0, 1], [1, 0], [0, 1, 2]])

    def test_several_servers_that_are_all_held_by_ready_jobs(self):
        self.check(SERVERS, yes=[[0, 1], [1, 0], [2, 1], [1, 2]], no=[[0, 2], [0, 1, 2], [0, 1, 2, 3], [3, 1], [1, 3]])
        made = simple(["a 2 2", "b 2 2"], ["p 0 a:2 b:1", "q 0 b:3 a:1"], "0 p 0 q 0 p 0 q")
        self.check(made, yes=[[0, 1], [0, 3], [2, 1], [2, 3], [0, 1, 2, 3], [3, 2, 1, 0], [0, 3, 2, 1], [2, 1, 0, 3]],
                   no=[[0, 2], [1, 3], [0, 1, 2], [0, 2, 1, 3], [0, 1, 3, 2]])

    def test_several_servers_that_are_not_all_held_by_ready_jobs(self):
        # Job 2 is served at a for a long time and then leaves, so that 1 and 0 go on.
        made = simple(["a 2 2", "b 1 1"], ["p 0 a:2 b:1", "q 0 b:3 a:1", "r 0 a:90"], "0 p 0 q 0 r")
        self.assertIn((3, "block", 1, "b"), event_run(made))
        self.check(made, no=[[0, 1], [1, 0], [0, 1, 2], [2, 1]])

    def test_a_room_that_is_not_full(self):
        made = simple(["a 1 2", "b 1 1"], ["p 0 a:2 b:1", "q 0 b:3 a:1"], "0 p 0 q")
        self.check(made, no=[[0, 1], [1, 0]])

    def test_the_next_one_holds_a_server_elsewhere(self):
        stations = ["a 1 1", "b 1 1", "c 1 1", "d 1 1"]
        made = simple(stations, ["p 0 a:7 b:1", "q 0 b:8 a:1", "r 0 c:1 d:1", "s 0 d:2 c:1"], "0 p 0 q 0 r 0 s")
        self.check(made, yes=[[0, 1], [2, 3], [3, 2]], no=[[0, 2], [0, 1, 2, 3], [0, 3], [2, 1], [0, 2, 1, 3]])

    def test_the_last_one_leads_to_the_first_one(self):
        # Job 0 leads to 1, 1 to 2 and 2 to 1: only the last step is wrong in the first of these.
        made = simple(["a 1 1", "b 1 1", "c 1 1"], ["p 0 a:1 b:1", "q 0 b:1 c:1", "r 0 c:1 b:1"], "0 p 0 q 0 r")
        self.check(made, yes=[[1, 2], [2, 1]], no=[[0, 1, 2], [0, 1], [0, 2]])

    def test_lists_of_few_jobs_of_many_models(self):
        many = 0
        chance = random.Random(1)
        for number in range(60):
            made = crowded_model(number)
            jobs = slow_end(made)
            if all(job.where in ("left", "lost") for job in jobs):
                continue
            numbers = range(-1, len(jobs) + 1)
            lists = [list(row) for length in (1, 2, 3) for row in itertools.permutations(numbers, length)]
            shown = [row for row in lists if slowly_shown(made, jobs, row)]
            many += len(shown)
            ready = [row for row in lists if row not in shown and all(jobs[at % len(jobs)].where == "ready" for at in row)]
            self.check(made, yes=shown[:20], no=chance.sample(ready, min(15, len(ready))))
            self.check(made, no=[row for row in chance.sample(lists, 10) if row not in shown])
        self.assertGreater(many, 50)


class GoesUpTest(unittest.TestCase):
    def check(self, rows, expected):
        """Kinds with these routes, each told by the letters of its stations, and stations a to f."""
        kinds = [(f"k{at}", 0, tuple((name, 1) for name in row)) for at, row in enumerate(rows.split())]
        made = model([(name, 1, 1, "first") for name in "abcdef"], kinds, [], [])
        with self.subTest(rows):
            self.assertIs(goes_up(made), expected)

    def test_routes_that_go_up(self):
        for rows in ("a", "f", "ab", "ba", "fedcba", "abcdef", "ab ab", "ab ac bc", "ad bd cd", "ab bc cd de ef", "a b c",
                     "fe ed dc cb ba", "ca cb ab", "ab cd ef"):
            self.check(rows, True)

    def test_routes_that_come_to_a_station_again_by_themselves(self):
        for rows in ("aba", "abca", "abcdea", "ababab", "fedcbf", "ab cdc", "abcb"):
            self.check(rows, False)

    def test_the_same_station_twice_side_by_side(self):
        for rows in ("aa", "aaaaaa", "abb", "aabc", "ab cc", "abcdff"):
            self.check(rows, False)

    def test_routes_that_come_to_a_station_again_by_way_of_others(self):
        for rows in ("ab ba", "ab bc ca", "abc ca", "ab cd bc da", "abc cb", "ef fe ab", "ab bc cd de ef fa", "abc dbe ea"):
            self.check(rows, False)

    def test_a_way_that_skips_a_step_counts_too(self):
        self.check("abc da cd", False)
        self.check("abc ad dc", True)

    def test_kinds_without_jobs_count_too(self):
        kinds = ["p 0 a:1 b:1", "q 0 b:1 a:1"]
        self.assertIs(goes_up(simple(["a 1 1", "b 1 1"], kinds, "0 p 5 p")), False)
        self.assertIs(goes_up(simple(["a 1 1", "b 1 1"], kinds[:1], "0 p 5 p")), True)
        self.assertIs(goes_up(simple(["a 1 1", "b 1 1"], ["p 0 a:1", "q 0 b:1 b:1"], "0 p")), False)

    def test_all_orders_of_the_stations_of_many_models(self):
        answers = []
        for number in range(200):
            chance = random.Random(number)
            stations = some_stations(chance)
            kinds = [(name, priority, route[:3]) for name, priority, route in some_kinds(chance, stations, 3)]
            made = model(stations, kinds, [], [])
            orders = itertools.permutations(name for name, _, _, _ in stations)
            expected = any(all(order.index(name) < order.index(after)
                               for _, _, route in kinds for (name, _), (after, _) in zip(route, route[1:]))
                           for order in orders)
            with self.subTest(number):
                self.assertIs(goes_up(made), expected)
            answers.append(expected)
        self.assertGreater(answers.count(True), 20)
        self.assertGreater(answers.count(False), 20)

    def test_nothing_is_stuck_where_routes_go_up(self):
        for number in range(100):
            stations, kinds, pauses, jobs = crowded_model(number)
            upwards = [(name, 0, tuple(sorted(dict(route).items()))) for name, _, route in kinds]
            made = model(list(stations), upwards, list(pauses), list(jobs))
            self.assertIs(goes_up(made), True)
            self.assertEqual(stuck(made), [])
            self.assertIsNone(ring(made))


class NothingIsModifiedTest(unittest.TestCase):
    def test_the_arguments_stay(self):
        for made in (FREE, EMPTY, TWO, BEHIND, SERVERS):
            before = copy.deepcopy(made)
            jobs = [1, 2, 3]
            for call in (stuck, ring, goes_up, lambda made: shows_stuck(made, jobs)):
                call(made)
                self.assertEqual(made, before)
            self.assertEqual(jobs, [1, 2, 3])

    def test_lists_are_new(self):
        for call in (stuck, ring):
            expected = call(BEHIND)
            answer = call(BEHIND)
            answer.clear()
            self.assertEqual(call(BEHIND), expected)
        stuck(FREE).append(5)
        self.assertEqual(stuck(FREE), [])


class InterfaceTest(unittest.TestCase):
    def test_names_and_arguments(self):
        arguments = {
            "stuck": ["some_model"],
            "ring": ["some_model"],
            "shows_stuck": ["some_model", "jobs"],
            "goes_up": ["some_model"],
        }
        for name, expected in arguments.items():
            with self.subTest(name):
                function = getattr(rings, name)
                self.assertEqual(list(inspect.signature(function).parameters), expected)
                self.assertEqual(function.__module__, rings.__name__)


if __name__ == "__main__":
    unittest.main()
