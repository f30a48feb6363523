import copy
import inspect
import random
import unittest

from eventsteps import courts
from eventsteps.counts import account, mean
from eventsteps.courts import about_model, about_pair, about_saying, about_station, judge, judge_all
from eventsteps.rings import ring
from eventsteps.runs import event_run
from reference import simple, slow_places, slow_trace, slow_value, some_model

EXAMPLE = simple(["a 1 1", "b 1 1"], ["x 0 a:3 b:5"], "0 x 3 x 4 x")
TRACE = event_run(EXAMPLE)
EMPTY = simple(["a 1 1", "b 2 -"], ["x 0 a:3 b:5"], "", [("a", 2, 5)])
# Jobs 1 and 2 are stuck, 0 leaves, 3 waits for ever and 4 is lost; no job comes to c.
CIRCLE = simple(["a 1 2", "b 1 1", "c 1 1"], ["p 0 a:2 b:1", "q 0 b:3 a:1", "r 0 a:1", "s 0 c:1"],
                "0 r 1 p 1 q 2 p 7 q")
JOB_LAST = simple(["a 1 -"], ["x 0 a:3", "y 0 a:4"], "0 x 4 y")
ALWAYS = ("count", "there", None, ">=", 0)
WORDS = ("there", "waiting", "served", "ready")


class JudgeTest(unittest.TestCase):
    def check(self, yes=(), no=()):
        for claim in yes:
            with self.subTest(claim):
                self.assertIs(judge(claim), True)
        for claim in no:
            with self.subTest(claim):
                self.assertIs(judge(claim), False)


class TraceTest(JudgeTest):
    def test_traces(self):
        self.check(yes=[("trace", EXAMPLE, TRACE), ("trace", EMPTY, [])],
                   no=[("trace", EXAMPLE, []), ("trace", EXAMPLE, TRACE[:-1]), ("trace", EXAMPLE, TRACE[1:]),
                       ("trace", EXAMPLE, TRACE + TRACE[-1:]), ("trace", EMPTY, TRACE), ("trace", CIRCLE, TRACE),
                       ("trace", EMPTY, [(0, "come", 0, "a")]), ("trace", EXAMPLE, [*TRACE, (99, "come", 0, "a")])])

    def test_each_event_counts(self):
        for index, (time, word, job, name) in enumerate(TRACE):
            for event in ((time + 1, word, job, name), (time, "", job, name), (time, word, job + 1, name),
                          (time, word, -1, name), (time, word, job, "c"), (-1, word, job, name)):
                self.check(no=[("trace", EXAMPLE, TRACE[:index] + [event] + TRACE[index + 1:])])


class MeanTest(JudgeTest):
    def test_means(self):
        self.check(yes=[("mean", EXAMPLE, "there", "a", (0, 10), (4, 5)), ("mean", EXAMPLE, "there", None, (0, 10), (3, 2)),
                        ("mean", EXAMPLE, "ready", "a", (6, 8), (1, 1)), ("mean", EXAMPLE, "waiting", "a", (0, 10), (0, 1)),
                        ("mean", EXAMPLE, "served", "b", (0, 20), (1, 2)), ("mean", EMPTY, "there", None, (3, 9), (0, 1))],
                   no=[("mean", EXAMPLE, "there", "a", (0, 10), (3, 5)), ("mean", EXAMPLE, "there", "b", (0, 10), (4, 5)),
                       ("mean", EXAMPLE, "there", "a", (0, 9), (4, 5)), ("mean", EXAMPLE, "served", "a", (0, 10), (4, 5)),
                       ("mean", EXAMPLE, "there", None, (0, 10), (4, 5)), ("mean", EMPTY, "there", "a", (0, 10), (4, 5))])

    def test_numbers_that_are_not_in_lowest_terms(self):
        self.check(no=[("mean", EXAMPLE, "there", "a", (0, 10), number)
                       for number in ((8, 10), (-4, -5), (4, -5), (4, 0), (0, 0), (0, 5), (5, 4), (0, 1))])
        self.check(no=[("mean", EXAMPLE, "waiting", "a", (0, 10), number)
                       for number in ((0, 10), (0, 2), (0, 0), (0, -1), (1, 0), (-1, 1))])

    def test_stations_that_are_not_there(self):
        self.check(no=[("mean", EXAMPLE, word, name, (0, 10), (0, 1)) for word in WORDS for name in ("c", "", "A", "x", "a b")])

    def test_windows_of_no_use(self):
        for station in ("a", None):
            self.check(no=[("mean", EXAMPLE, "waiting", station, window, number)
                           for window in ((5, 5), (0, 0), (9, 5), (-1, 5), (-5, -1), (-1, -1), (0, -5))
                           for number in ((0, 1), (0, 0), (0, -1))])
        self.check(no=[("mean", EXAMPLE, "there", "a", (-2, 2), (1, 2)), ("mean", EXAMPLE, "served", "a", (-2, 2), (1, 2))])

    def test_words_that_are_none(self):
        self.check(no=[("mean", EXAMPLE, word, "a", (0, 10), (0, 1)) for word in ("", "left", "lost", "absent", "There")])


class AccountTest(JudgeTest):
    def test_accounts(self):
        self.check(yes=[("account", EXAMPLE, "a", (0, 10), (8, 2, 8, 0, 0)), ("account", EXAMPLE, "b", (5, 9), (4, 1, 5, 3, 4)),
                        ("account", EMPTY, "a", (0, 10), (0, 0, 0, 0, 0))],
                   no=[("account", EXAMPLE, "b", (0, 10), (8, 2, 8, 0, 0)), ("account", EXAMPLE, "a", (1, 10), (8, 2, 8, 0, 0)),
                       ("account", EMPTY, "a", (0, 10), (8, 2, 8, 0, 0)), ("account", EXAMPLE, "a", (0, 10), (8, 2, 8, 0))])

    def test_each_number_counts(self):
        right = (4, 1, 5, 3, 4)
        for at in range(5):
            for many in (-1, 1, 100):
                wrong = (*right[:at], right[at] + many, *right[at + 1:])
                self.check(no=[("account", EXAMPLE, "b", (5, 9), wrong)])

    def test_stations_that_are_not_there(self):
        nothing = (0, 0, 0, 0, 0)
        self.check(no=[("account", EMPTY, name, (0, 10), nothing) for name in ("c", "", "A", None)])
        self.check(no=[("account", EXAMPLE, None, (0, 10), (15, 4, 15, 0, 0))])

    def test_windows_of_no_use(self):
        nothing = (0, 0, 0, 0, 0)
        for window in ((5, 5), (0, 0), (9, 5), (-1, 5), (-5, -1), (-1, -1), (0, -5)):
            self.check(no=[("account", EMPTY, "a", window, nothing), ("account", EXAMPLE, "a", window, nothing)])
        self.check(no=[("account", EXAMPLE, "a", (-1, 10), (8, 2, 8, 0, 0))])


class BoundTest(JudgeTest):
    def test_bounds_of_stations_and_jobs(self):
        self.check(yes=[("bound", EXAMPLE, ("station", "a"), 14), ("bound", EXAMPLE, ("station", "b"), 18),
                        ("bound", EXAMPLE, ("job", 0), 8), ("bound", EXAMPLE, ("job", 1), 11),
                        ("bound", EXAMPLE, ("job", 2), 12)],
                   no=[("bound", EXAMPLE, ("station", "a"), 13), ("bound", EXAMPLE, ("station", "a"), 18),
                       ("bound", EXAMPLE, ("station", "b"), 19), ("bound", EXAMPLE, ("job", 0), 9),
                       ("bound", EXAMPLE, ("job", 1), 8), ("bound", EXAMPLE, ("job", 2), 0),
                       ("bound", EXAMPLE, ("station", "a"), -14), ("bound", EXAMPLE, ("job", 0), None)])

    def test_places_that_are_not_there(self):
        for number in (0, 8, 11, 12, 14, 18, None):
            self.check(no=[("bound", EXAMPLE, place, number) for place in (
                ("job", -1), ("job", -2), ("job", -3), ("job", 3), ("job", 40), ("station", "c"), ("station", ""),
                ("station", None), ("station", "x"), ("kind", "x"), ("", "a"), ("job", "a"), ("station", 0))])

    def test_stations_that_no_job_comes_to(self):
        self.check(no=[("bound", CIRCLE, ("station", "c"), number) for number in (None, 0, 1, -1)])
        self.check(no=[("bound", EMPTY, ("station", name), number) for name in "ab" for number in (None, 0, 3)])
        self.check(no=[("bound", EMPTY, ("job", 0), number) for number in (None, 0)])


class StuckTest(JudgeTest):
    def test_lists_of_jobs(self):
        self.check(yes=[("stuck", CIRCLE, [1, 2]), ("stuck", CIRCLE, [2, 1])],
                   no=[("stuck", CIRCLE, jobs) for jobs in (
                       [], [1], [2], [0], [3], [4], [0, 1, 2], [1, 2, 3], [1, 2, 1, 2], [1, 1], [-1], [5], [1, 2, 5], [-4, -3],
                       [100])])
        self.check(no=[("stuck", made, jobs) for made in (EXAMPLE, EMPTY) for jobs in ([], [0], [0, 1], [-1], [7])])


class SayingTest(JudgeTest):
    def test_each_saying(self):
        ready, served = ("job", 1, "ready"), ("job", 1, "served")
        for saying, right in (
            (("always", ALWAYS), (True, None)),
            (("always", ("job", 1, "absent")), (False, 3)),
            (("ever", ready), (True, 6)),
            (("ever", ("job", 1, "waiting")), (False, None)),
            (("until", ALWAYS, ready), (True, 6)),
            (("until", served, ready), (False, 0)),
            (("until", ALWAYS, ("job", 0, "lost")), (False, None)),
            (("within", ready, 2, served), (True, None)),
            (("within", ready, 1, served), (False, 6)),
        ):
            answers = [(truth, time) for truth in (True, False) for time in (None, 0, 1, 3, 6, 7, -1)]
            self.check(yes=[("saying", EXAMPLE, saying, right)],
                       no=[("saying", EXAMPLE, saying, wrong) for wrong in answers if wrong != right])

    def test_conditions_about_stations_that_are_not_there(self):
        for name in ("c", "", "A", "x"):
            count = ("count", "there", name, "=", 0)
            for condition in (count, ("not", count), ("and", ALWAYS, count), ("or", count, ALWAYS), ("or", ALWAYS, ("not", count))):
                self.check_no_answer_holds(condition)

    def test_conditions_about_jobs_that_are_not_there(self):
        for job in (-1, -3, 3, 40):
            for word in ("absent", "left", "lost"):
                told = ("job", job, word)
                for condition in (told, ("not", told), ("and", told, ALWAYS), ("or", ALWAYS, told)):
                    self.check_no_answer_holds(condition)
        self.check(no=[("saying", EMPTY, ("always", ("job", 0, "absent")), (truth, time))
                       for truth in (True, False) for time in (None, 0)])

    def check_no_answer_holds(self, condition):
        for saying in (("always", condition), ("ever", condition), ("until", condition, ALWAYS), ("until", ALWAYS, condition),
                       ("within", condition, 3, ALWAYS), ("within", ALWAYS, 3, condition)):
            self.check(no=[("saying", EXAMPLE, saying, (truth, time))
                           for truth in (True, False) for time in (None, 0, 3, 8, 13)])

    def test_all_stations_and_those_that_are_there(self):
        for name in (None, "a", "b"):
            self.check(yes=[("saying", EXAMPLE, ("always", ("not", ("count", "waiting", name, ">", 0))), (True, None)),
                            ("saying", EMPTY, ("ever", ("count", "there", name, ">", 0)), (False, None))])

    def test_a_model_without_jobs(self):
        self.check(yes=[("saying", EMPTY, ("ever", ALWAYS), (True, 0))], no=[("saying", EMPTY, ("ever", ALWAYS), (False, None))])


class DifferenceTest(JudgeTest):
    def test_differences(self):
        other = simple(["a 1 2", "b 1 1"], ["x 0 a:3 b:5"], "0 x 3 x 4 x")
        self.check(yes=[("difference", EXAMPLE, other, 7), ("difference", other, EXAMPLE, 7)],
                   no=[("difference", one, two, index) for one, two in ((EXAMPLE, other), (other, EXAMPLE))
                       for index in (None, 0, 6, 8, 15, 16, 100, -1, -9)])

    def test_the_same_traces(self):
        paused = (*EMPTY[:2], (), ())
        self.check(yes=[("difference", EXAMPLE, EXAMPLE, None), ("difference", EMPTY, EMPTY, None),
                        ("difference", EMPTY, paused, None)],
                   no=[("difference", EXAMPLE, EXAMPLE, index) for index in (0, 1, 15, 16, 17, -1)])
        self.check(no=[("difference", EMPTY, EMPTY, index) for index in (0, 1, -1)])

    def test_a_trace_that_is_the_beginning_of_the_other_one(self):
        longer = (*EXAMPLE[:3], (*EXAMPLE[3], (50, "x")))
        for one, other in ((EXAMPLE, longer), (longer, EXAMPLE)):
            self.check(yes=[("difference", one, other, 16)],
                       no=[("difference", one, other, index) for index in (None, 15, 17, 0, -1)])
        self.check(yes=[("difference", EMPTY, EXAMPLE, 0), ("difference", EXAMPLE, EMPTY, 0)],
                   no=[("difference", EMPTY, EXAMPLE, None), ("difference", EMPTY, EXAMPLE, 1)])


class JudgeAllTest(unittest.TestCase):
    def test_the_indices_of_those_that_do_not_hold(self):
        yes, no = ("trace", EMPTY, []), ("stuck", EMPTY, [])
        self.assertEqual(judge_all([]), [])
        self.assertEqual(judge_all([yes]), [])
        self.assertEqual(judge_all([no]), [0])
        self.assertEqual(judge_all([yes, no, no, yes, no]), [1, 2, 4])
        self.assertEqual(judge_all([no, yes, yes]), [0])
        self.assertEqual(judge_all([yes, yes, yes]), [])

    def test_claims_of_all_kinds(self):
        claims = [
            ("trace", EXAMPLE, []),
            ("mean", EXAMPLE, "there", "a", (0, 10), (4, 5)),
            ("account", EXAMPLE, "c", (0, 10), (0, 0, 0, 0, 0)),
            ("bound", EXAMPLE, ("station", "b"), 18),
            ("stuck", CIRCLE, [1]),
            ("saying", EXAMPLE, ("ever", ("job", 1, "ready")), (True, 6)),
            ("difference", EXAMPLE, EMPTY, 1),
        ]
        self.assertEqual(judge_all(claims), [0, 2, 4, 6])
        self.assertEqual(judge_all(claims[::-1]), [0, 2, 4, 6])


class AboutTest(unittest.TestCase):
    def test_a_model(self):
        self.assertEqual(about_model(EXAMPLE), [("trace", EXAMPLE, TRACE), ("bound", EXAMPLE, ("station", "b"), 18)])

    def test_a_model_with_a_job_as_its_bottleneck(self):
        self.assertEqual(about_model(JOB_LAST), [("trace", JOB_LAST, event_run(JOB_LAST)), ("bound", JOB_LAST, ("job", 1), 8)])

    def test_a_model_with_a_ring(self):
        self.assertEqual(about_model(CIRCLE), [
            ("trace", CIRCLE, event_run(CIRCLE)),
            ("bound", CIRCLE, ("job", 4), 7 + 3 + 1),
            ("stuck", CIRCLE, [1, 2]),
        ])

    def test_a_model_without_jobs(self):
        self.assertEqual(about_model(EMPTY), [("trace", EMPTY, [])])

    def test_a_station(self):
        self.assertEqual(about_station(EXAMPLE, "a", (0, 10)), [
            ("mean", EXAMPLE, "there", "a", (0, 10), (4, 5)),
            ("mean", EXAMPLE, "waiting", "a", (0, 10), (0, 1)),
            ("mean", EXAMPLE, "served", "a", (0, 10), (3, 5)),
            ("mean", EXAMPLE, "ready", "a", (0, 10), (1, 5)),
            ("account", EXAMPLE, "a", (0, 10), (8, 2, 8, 0, 0)),
        ])

    def test_a_station_that_no_job_comes_to(self):
        self.assertEqual(about_station(CIRCLE, "c", (2, 7)),
                         [("mean", CIRCLE, word, "c", (2, 7), (0, 1)) for word in WORDS]
                         + [("account", CIRCLE, "c", (2, 7), (0, 0, 0, 0, 0))])

    def test_a_station_without_jobs(self):
        self.assertEqual(about_station(EMPTY, "b", (0, 1)),
                         [("mean", EMPTY, word, "b", (0, 1), (0, 1)) for word in WORDS]
                         + [("account", EMPTY, "b", (0, 1), (0, 0, 0, 0, 0))])

    def test_a_saying(self):
        saying = ("ever", ("job", 1, "ready"))
        self.assertEqual(about_saying(EXAMPLE, saying), ("saying", EXAMPLE, saying, (True, 6)))
        saying = ("always", ALWAYS)
        self.assertEqual(about_saying(EMPTY, saying), ("saying", EMPTY, saying, (True, None)))

    def test_a_pair(self):
        self.assertEqual(about_pair(EXAMPLE, EMPTY), ("difference", EXAMPLE, EMPTY, 0))
        self.assertEqual(about_pair(EMPTY, EXAMPLE), ("difference", EMPTY, EXAMPLE, 0))
        self.assertEqual(about_pair(EXAMPLE, EXAMPLE), ("difference", EXAMPLE, EXAMPLE, None))
        longer = (*EXAMPLE[:3], (*EXAMPLE[3], (50, "x")))
        self.assertEqual(about_pair(EXAMPLE, longer), ("difference", EXAMPLE, longer, 16))

    def test_all_of_them_hold(self):
        for made in (EXAMPLE, EMPTY, CIRCLE, JOB_LAST, *map(some_model, range(60))):
            claims = about_model(made)
            for name, _, _, _ in made[0]:
                for window in ((0, 1), (0, 12), (5, 8), (100, 300)):
                    claims += about_station(made, name, window)
            for condition in (ALWAYS, ("count", "there", None, ">", 0), ("count", "ready", made[0][0][0], "<", 1)):
                for saying in (("always", condition), ("ever", condition), ("until", condition, ("not", condition)),
                               ("within", ("not", condition), 3, condition)):
                    claims.append(about_saying(made, saying))
            claims += [about_pair(made, other) for other in (EXAMPLE, made, (*made[:2], (), made[3]))]
            with self.subTest(made):
                self.assertEqual([judge(claim) for claim in claims], [True] * len(claims))
                self.assertEqual(judge_all(claims), [])
                self.assertEqual(judge_all([("stuck", EMPTY, [])] + claims + [("stuck", EMPTY, [])]), [0, len(claims) + 1])

    def test_what_they_say_of_many_models(self):
        for number in range(60):
            made = some_model(number)
            trace = slow_trace(made)
            claims = about_model(made)
            self.assertEqual(claims[0], ("trace", made, trace))
            self.assertEqual([claim[0] for claim in claims], ["trace"] + ["bound"] * bool(made[3]) + ["stuck"] * (ring(made) is not None))
            rows = slow_places(made, 12)
            for name, _, _, _ in made[0]:
                *means, last = about_station(made, name, (3, 9))
                self.assertEqual(means, [("mean", made, word, name, (3, 9), mean(made, trace, word, name, (3, 9))) for word in WORDS])
                self.assertEqual(last, ("account", made, name, (3, 9), account(made, trace, name, (3, 9))))
                self.assertEqual([6 * top for *_, (top, _) in means],
                                 [bottom * sum(slow_value(places, word, name) for places in rows[3:9])
                                  for word, (*_, (_, bottom)) in zip(WORDS, means)])

    def test_claims_that_are_changed_do_not_hold(self):
        for number in range(40):
            chance = random.Random(number)
            made = some_model(number)
            for claim in about_model(made) + about_station(made, made[0][0][0], (2, 9)):
                *first, last = claim
                wrong = {
                    "trace": lambda: last[:-1] if last else [(0, "come", 0, "a")],
                    "bound": lambda: last + chance.choice((-1, 1)),
                    "stuck": lambda: last[:-1],
                    "mean": lambda: (last[0] + 1, last[1]),
                    "account": lambda: (*last[:3], last[3] + 1, last[4]),
                }[claim[0]]()
                self.assertIs(judge((*first, wrong)), False)


class NothingIsModifiedTest(unittest.TestCase):
    def test_the_arguments_stay(self):
        claims = about_model(CIRCLE) + about_station(CIRCLE, "a", (0, 9)) + [about_pair(CIRCLE, EXAMPLE)]
        claims += [about_saying(CIRCLE, ("until", ALWAYS, ("job", 1, "ready"))), ("stuck", CIRCLE, [3, 2, 1])]
        before = copy.deepcopy(claims)
        for claim in claims:
            judge(claim)
        judge_all(claims)
        self.assertEqual(claims, before)

    def test_lists_are_new(self):
        for call in (lambda: about_model(CIRCLE), lambda: about_station(CIRCLE, "a", (0, 9))):
            expected = call()
            call().clear()
            answer = call()
            answer.reverse()
            self.assertEqual(call(), expected)
        claims = about_model(CIRCLE)
        claims[0][2].clear()
        claims[2][2].append(9)
        self.assertEqual(about_model(CIRCLE)[0], ("trace", CIRCLE, event_run(CIRCLE)))
        self.assertEqual(about_model(CIRCLE)[2], ("stuck", CIRCLE, [1, 2]))
        judge_all([("stuck", EMPTY, [])]).append(5)
        self.assertEqual(judge_all([("stuck", EMPTY, [])]), [0])

    def test_the_kinds_of_values(self):
        for claims in (about_model(CIRCLE), about_station(CIRCLE, "a", (0, 9))):
            self.assertIs(type(claims), list)
            self.assertEqual({type(claim) for claim in claims}, {tuple})
        self.assertIs(type(about_saying(EMPTY, ("ever", ALWAYS))), tuple)
        self.assertIs(type(about_pair(EMPTY, EMPTY)), tuple)
        self.assertIs(type(judge_all([])), list)


class InterfaceTest(unittest.TestCase):
    def test_names_and_arguments(self):
        arguments = {
            "about_model": ["some_model"],
            "about_station": ["some_model", "station", "window"],
            "about_saying": ["some_model", "saying"],
            "about_pair": ["some_model", "other"],
            "judge": ["claim"],
            "judge_all": ["claims"],
        }
        for name, expected in arguments.items():
            with self.subTest(name):
                function = getattr(courts, name)
                self.assertEqual(list(inspect.signature(function).parameters), expected)
                self.assertEqual(function.__module__, courts.__name__)


if __name__ == "__main__":
    unittest.main()
