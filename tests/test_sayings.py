import copy
import inspect
import random
import unittest

from eventsteps import sayings
from eventsteps.runs import event_run
from eventsteps.sayings import answer, holds_at
from reference import simple, slow_places, slow_trace, slow_value, some_model

# Job 0 is at a from 0 to 3 and at b from 3 to 8; job 1 is at a from 3 to 8, ready from 6 on, and at b from 8 to 13;
# job 2 is lost at 4.
EXAMPLE = simple(["a 1 1", "b 1 1"], ["x 0 a:3 b:5"], "0 x 3 x 4 x")
EMPTY = simple(["a 1 1", "b 2 -"], ["x 0 a:3 b:5"], "", [("a", 2, 5)])
# Job 0 is served from 2 to 5, job 1 waits from 4 to 5 and is served from 5 to 8.
LATE = simple(["a 1 -"], ["x 0 a:3"], "2 x 4 x")
STUCK = simple(["a 1 1"], ["x 0 a:6 a:9"], "3 x")
ALWAYS = ("count", "there", None, ">=", 0)
NEVER = ("count", "there", None, "<", 0)
COUNT_WORDS = ("there", "waiting", "served", "ready")
JOB_WORDS = ("absent", "waiting", "served", "ready", "left", "lost")


def count(word, station, relation, number):
    return ("count", word, station, relation, number)


def slow_holds(places, condition):
    """Whether a condition holds where the jobs are at these places of the slow run."""
    if condition[0] == "count":
        _, word, station, relation, number = condition
        value = slow_value(places, word, station)
        return {"<": value < number, "<=": value <= number, "=": value == number,
                ">=": value >= number, ">": value > number}[relation]
    if condition[0] == "job":
        return places[condition[1]][0] == condition[2]
    parts = [slow_holds(places, part) for part in condition[1:]]
    return {"not": not parts[0], "and": all(parts), "or": any(parts)}[condition[0]]


def slow_answer(rows, saying):
    """The answer to a saying, by a look at each time; rows are the places at each of them, the last ones for ever."""
    if saying[0] == "within":
        rows = rows + rows[-1:] * (saying[2] + 1)
        first = [slow_holds(places, saying[1]) for places in rows]
        goal = [slow_holds(places, saying[3]) for places in rows]
        for time in range(len(rows) - saying[2]):
            if first[time] and not any(goal[time:time + saying[2] + 1]):
                return (False, time)
        return (True, None)
    holds = [[slow_holds(places, condition) for places in rows] for condition in saying[1:]]
    if saying[0] == "always":
        return (False, holds[0].index(False)) if False in holds[0] else (True, None)
    if saying[0] == "ever":
        return (True, holds[0].index(True)) if True in holds[0] else (False, None)
    for time, (one, goal) in enumerate(zip(*holds)):
        if goal:
            return (True, time)
        if not one:
            return (False, time)
    return (False, None)


def some_condition(chance, made, depth=3):
    """A condition by chance, with this many within each other at most."""
    if depth and chance.random() < 0.5:
        word = chance.choice(("not", "and", "or"))
        return (word, *[some_condition(chance, made, depth - 1) for _ in range(1 if word == "not" else 2)])
    if made[3] and chance.random() < 0.4:
        return ("job", chance.randrange(len(made[3])), chance.choice(JOB_WORDS))
    station = chance.choice([None, *[name for name, _, _, _ in made[0]]])
    return count(chance.choice(COUNT_WORDS), station, chance.choice(("<", "<=", "=", ">=", ">")), chance.randint(0, 3))


def some_saying(chance, made):
    word = chance.choice(("always", "ever", "until", "until", "within", "within"))
    one, other = some_condition(chance, made), some_condition(chance, made)
    if word == "within":
        return (word, one, chance.choice((0, 1, 2, 3, 5, 10, 1000)), other)
    return (word, one, other) if word == "until" else (word, one)


class HoldsTest(unittest.TestCase):
    def check(self, made, condition, times, last=16):
        """Expect a condition to hold at these times and at no others up to the last one."""
        trace = event_run(made)
        found = [holds_at(made, trace, condition, time) for time in range(last + 1)]
        self.assertEqual({type(truth) for truth in found}, {bool})
        with self.subTest(condition):
            self.assertEqual([time for time, truth in enumerate(found) if truth], list(times))

    def test_each_word_of_a_count_at_a_station(self):
        self.check(EXAMPLE, count("there", "a", "=", 1), range(8))
        self.check(EXAMPLE, count("served", "a", "=", 1), range(6))
        self.check(EXAMPLE, count("ready", "a", "=", 1), [6, 7])
        self.check(EXAMPLE, count("waiting", "a", "=", 0), range(17))
        self.check(EXAMPLE, count("there", "b", "=", 1), range(3, 13))
        self.check(LATE, count("waiting", "a", "=", 1), [4])
        self.check(LATE, count("there", "a", "=", 2), [4])
        self.check(LATE, count("served", "a", "=", 1), range(2, 8))

    def test_each_word_of_a_count_at_all_stations(self):
        self.check(EXAMPLE, count("there", None, "=", 2), range(3, 8))
        self.check(EXAMPLE, count("served", None, "=", 2), range(3, 6))
        self.check(EXAMPLE, count("ready", None, "=", 1), [6, 7])
        self.check(EXAMPLE, count("waiting", None, "=", 0), range(17))
        self.check(LATE, count("waiting", None, "=", 1), [4])

    def test_each_relation(self):
        # 0 are there at 0 and 1, 1 at 2 and 3, 2 at 4, 1 from 5 to 7, and then 0 for ever.
        none, one, two = [0, 1, *range(8, 17)], [2, 3, 5, 6, 7], [4]
        for station in ("a", None):
            self.check(LATE, count("there", station, "<", 1), none)
            self.check(LATE, count("there", station, "<=", 1), sorted(none + one))
            self.check(LATE, count("there", station, "=", 1), one)
            self.check(LATE, count("there", station, ">=", 1), sorted(one + two))
            self.check(LATE, count("there", station, ">", 1), two)

    def test_relations_to_numbers_that_no_value_has(self):
        for relation in ("<", "<=", "="):
            self.check(LATE, count("there", "a", relation, -1), [])
        for relation in (">=", ">"):
            self.check(LATE, count("there", "a", relation, -1), range(17))
            self.check(LATE, count("there", "a", relation, 3), [])
        for relation in ("<", "<="):
            self.check(LATE, count("there", "a", relation, 3), range(17))
        self.check(LATE, count("there", "a", "<", 0), [])
        self.check(LATE, count("there", "a", ">=", 0), range(17))

    def test_each_word_of_a_job(self):
        self.check(EXAMPLE, ("job", 1, "absent"), range(3))
        self.check(EXAMPLE, ("job", 1, "served"), [3, 4, 5, 8, 9, 10, 11, 12])
        self.check(EXAMPLE, ("job", 1, "ready"), [6, 7])
        self.check(EXAMPLE, ("job", 1, "left"), range(13, 17))
        self.check(EXAMPLE, ("job", 1, "waiting"), [])
        self.check(EXAMPLE, ("job", 1, "lost"), [])
        self.check(EXAMPLE, ("job", 2, "absent"), range(4))
        self.check(EXAMPLE, ("job", 2, "lost"), range(4, 17))
        self.check(EXAMPLE, ("job", 2, "left"), [])
        self.check(EXAMPLE, ("job", 0, "absent"), [])
        self.check(LATE, ("job", 1, "waiting"), [4])
        self.check(LATE, ("job", 0, "waiting"), [])
        self.check(STUCK, ("job", 0, "ready"), range(9, 17))

    def test_not(self):
        self.check(EXAMPLE, ("not", ("job", 1, "absent")), range(3, 17))
        self.check(EXAMPLE, ("not", ("not", ("job", 1, "absent"))), range(3))
        self.check(EXAMPLE, ("not", ALWAYS), [])

    def test_and(self):
        ready, full = ("job", 1, "ready"), count("there", "a", "=", 1)
        self.check(EXAMPLE, ("and", ("job", 1, "served"), full), [3, 4, 5])
        self.check(EXAMPLE, ("and", full, ("job", 1, "served")), [3, 4, 5])
        self.check(EXAMPLE, ("and", ready, ready), [6, 7])
        self.check(EXAMPLE, ("and", ready, NEVER), [])
        self.check(EXAMPLE, ("and", NEVER, ready), [])

    def test_or(self):
        self.check(EXAMPLE, ("or", ("job", 1, "ready"), ("job", 1, "absent")), [0, 1, 2, 6, 7])
        self.check(EXAMPLE, ("or", ("job", 1, "absent"), ("job", 1, "ready")), [0, 1, 2, 6, 7])
        self.check(EXAMPLE, ("or", ("job", 1, "ready"), ("job", 1, "ready")), [6, 7])
        self.check(EXAMPLE, ("or", NEVER, ("job", 1, "ready")), [6, 7])

    def test_within_each_other(self):
        one, two, three = ("job", 1, "ready"), ("job", 1, "absent"), ("job", 0, "left")
        self.check(EXAMPLE, ("not", ("or", one, two)), [3, 4, 5, *range(8, 17)])
        self.check(EXAMPLE, ("or", ("not", two), ("and", two, three)), range(3, 17))
        self.check(EXAMPLE, ("and", ("not", ("or", one, two)), ("not", three)), [3, 4, 5])
        self.check(EXAMPLE, ("not", ("and", ("or", two, three), ("not", ("and", three, three)))), range(3, 17))
        self.check(EXAMPLE, ("and", ("or", one, two), ("or", two, three)), range(3))

    def test_five_within_each_other(self):
        condition = ("job", 1, "ready")
        for _ in range(5):
            condition = ("not", ("not", ("or", condition, ("and", condition, NEVER))))
        self.check(EXAMPLE, condition, [6, 7])

    def test_without_jobs(self):
        self.check(EMPTY, count("there", None, "=", 0), range(17))
        self.check(EMPTY, count("there", "a", ">", 0), [])
        self.check(EMPTY, ("not", count("served", "b", ">", 0)), range(17))

    def test_far_behind_the_last_event(self):
        for time in (13, 14, 100, 20000, 10 ** 9):
            self.assertIs(holds_at(EXAMPLE, event_run(EXAMPLE), ("job", 1, "left"), time), True)
            self.assertIs(holds_at(STUCK, event_run(STUCK), ("job", 0, "ready"), time), True)

    def test_a_job_that_is_not_there(self):
        for job in (-1, 3, 40):
            for word in JOB_WORDS:
                self.check(EXAMPLE, ("job", job, word), [])

    def test_many_models(self):
        for number in range(60):
            chance = random.Random(number)
            made = some_model(number)
            trace = slow_trace(made)
            rows = slow_places(made, (trace[-1][0] if trace else 0) + 2)
            for _ in range(8):
                condition = some_condition(chance, made)
                for time, places in enumerate(rows):
                    if time % 3 == number % 3 or time > len(rows) - 3:
                        self.assertIs(holds_at(made, trace, condition, time), slow_holds(places, condition),
                                      (number, condition, time))


class AnswerTest(unittest.TestCase):
    def check(self, made, saying, truth, time):
        with self.subTest(saying):
            found = answer(made, event_run(made), saying)
            self.assertEqual(found, (truth, time))
            self.assertIs(found[0], truth)
            self.assertIs(type(found), tuple)

    def test_the_examples_of_the_interface(self):
        self.check(EXAMPLE, ("always", count("there", "b", "<", 2)), True, None)
        self.check(EXAMPLE, ("ever", ("job", 1, "ready")), True, 6)

    def test_always(self):
        self.check(EXAMPLE, ("always", ALWAYS), True, None)
        self.check(EXAMPLE, ("always", NEVER), False, 0)
        self.check(EXAMPLE, ("always", ("job", 1, "absent")), False, 3)
        self.check(EXAMPLE, ("always", ("not", ("job", 2, "lost"))), False, 4)
        self.check(EXAMPLE, ("always", ("not", ("job", 0, "left"))), False, 8)
        self.check(EXAMPLE, ("always", ("not", ("job", 1, "left"))), False, 13)
        self.check(EXAMPLE, ("always", ("not", ("job", 1, "waiting"))), True, None)
        self.check(LATE, ("always", count("there", "a", "=", 0)), False, 2)
        self.check(LATE, ("always", count("waiting", "a", "=", 0)), False, 4)

    def test_ever(self):
        self.check(EXAMPLE, ("ever", ALWAYS), True, 0)
        self.check(EXAMPLE, ("ever", NEVER), False, None)
        self.check(EXAMPLE, ("ever", ("job", 0, "served")), True, 0)
        self.check(EXAMPLE, ("ever", ("job", 1, "left")), True, 13)
        self.check(EXAMPLE, ("ever", ("job", 1, "waiting")), False, None)
        self.check(EXAMPLE, ("ever", count("there", None, ">", 1)), True, 3)
        self.check(LATE, ("ever", count("there", "a", "=", 0)), True, 0)
        self.check(LATE, ("ever", ("and", count("there", "a", "=", 0), ("job", 0, "left"))), True, 8)
        self.check(STUCK, ("ever", ("job", 0, "ready")), True, 9)

    def test_what_is_only_so_between_two_events_of_one_time_does_not_count(self):
        made = simple(["a 1 1", "b 1 1"], ["x 0 a:3 b:5"], "1 x")
        self.check(made, ("ever", ("job", 0, "ready")), False, None)
        self.check(made, ("ever", ("job", 0, "waiting")), False, None)
        self.check(made, ("always", count("there", None, "=", 1)), False, 0)
        self.check(made, ("within", ("job", 0, "served"), 0, count("served", None, "=", 1)), True, None)

    def test_until(self):
        self.check(EXAMPLE, ("until", ("job", 1, "absent"), count("there", None, ">", 1)), True, 3)
        self.check(EXAMPLE, ("until", count("there", "a", "=", 1), ("job", 0, "left")), True, 8)
        self.check(EXAMPLE, ("until", ALWAYS, ("job", 1, "left")), True, 13)
        self.check(EXAMPLE, ("until", ALWAYS, ("job", 1, "ready")), True, 6)

    def test_until_where_the_goal_holds_at_0(self):
        for one in (ALWAYS, NEVER, ("job", 1, "absent")):
            self.check(EXAMPLE, ("until", one, ("job", 0, "served")), True, 0)
            self.check(EMPTY, ("until", one if one[0] == "count" else NEVER, ALWAYS), True, 0)

    def test_until_where_the_first_one_need_not_hold_at_the_time_of_the_goal(self):
        self.check(EXAMPLE, ("until", ("not", ("job", 1, "ready")), ("job", 1, "ready")), True, 6)
        self.check(EXAMPLE, ("until", ("job", 2, "absent"), ("job", 2, "lost")), True, 4)

    def test_until_that_is_false_at_a_time(self):
        self.check(EXAMPLE, ("until", ("job", 1, "absent"), ("job", 1, "ready")), False, 3)
        self.check(EXAMPLE, ("until", NEVER, ("job", 1, "ready")), False, 0)
        self.check(EXAMPLE, ("until", NEVER, NEVER), False, 0)
        self.check(EXAMPLE, ("until", count("there", None, ">", 0), NEVER), False, 13)
        self.check(EXAMPLE, ("until", ("not", ("job", 1, "ready")), ("job", 1, "left")), False, 6)
        self.check(LATE, ("until", count("there", "a", "=", 0), ("job", 1, "served")), False, 2)
        # The goal holds later, and the first one at last again.
        self.check(LATE, ("until", count("waiting", "a", "=", 0), ("job", 1, "left")), False, 4)

    def test_until_that_is_false_without_a_time(self):
        self.check(EXAMPLE, ("until", ALWAYS, NEVER), False, None)
        self.check(EXAMPLE, ("until", count("there", "b", "<", 2), ("job", 1, "lost")), False, None)
        self.check(EMPTY, ("until", ALWAYS, NEVER), False, None)
        self.check(STUCK, ("until", count("there", None, "<=", 1), ("job", 0, "left")), False, None)

    def test_within(self):
        served, ready = ("job", 1, "served"), ("job", 1, "ready")
        # Job 1 is served from 3 to 5, ready at 6 and 7, and served again from 8 to 12.
        self.check(EXAMPLE, ("within", ready, 0, served), False, 6)
        self.check(EXAMPLE, ("within", ready, 1, served), False, 6)
        self.check(EXAMPLE, ("within", ready, 2, served), True, None)
        self.check(EXAMPLE, ("within", served, 2, ready), False, 3)
        self.check(EXAMPLE, ("within", served, 3, ready), False, 8)
        self.check(EXAMPLE, ("within", served, 3, ("or", ready, ("job", 1, "left"))), False, 8)
        self.check(EXAMPLE, ("within", served, 5, ("or", ready, ("job", 1, "left"))), True, None)
        self.check(EXAMPLE, ("within", served, 4, ("or", ready, ("job", 1, "left"))), False, 8)
        self.check(EXAMPLE, ("within", ("job", 1, "absent"), 5, ready), False, 0)
        self.check(EXAMPLE, ("within", ("job", 1, "absent"), 6, ready), True, None)

    def test_within_0(self):
        self.check(EXAMPLE, ("within", ("job", 1, "ready"), 0, count("there", None, "=", 2)), True, None)
        self.check(EXAMPLE, ("within", count("there", None, "=", 2), 0, ("job", 1, "served")), False, 6)
        self.check(EXAMPLE, ("within", ALWAYS, 0, ALWAYS), True, None)
        self.check(EXAMPLE, ("within", ALWAYS, 0, NEVER), False, 0)

    def test_within_1(self):
        made = simple(["a 1 -"], ["x 0 a:1"], "0 x 2 x 3 x 6 x")
        free = count("there", "a", "=", 0)
        # Somebody is there at 0, 2, 3 and 6.
        self.check(made, ("within", ("not", free), 0, free), False, 0)
        self.check(made, ("within", ("not", free), 1, free), False, 2)
        self.check(made, ("within", ("not", free), 2, free), True, None)
        self.check(made, ("within", free, 1, ("not", free)), False, 4)
        self.check(made, ("within", free, 2, ("not", free)), False, 7)

    def test_within_up_to_behind_the_last_event(self):
        gone = ("job", 1, "left")
        for number, truth, time in ((12, False, 0), (13, True, None), (14, True, None), (1000, True, None)):
            self.check(EXAMPLE, ("within", ALWAYS, number, gone), truth, time)
        self.check(EXAMPLE, ("within", gone, 1000, ("job", 0, "absent")), False, 13)
        self.check(EXAMPLE, ("within", gone, 0, gone), True, None)
        self.check(EXAMPLE, ("within", gone, 1000, NEVER), False, 13)
        self.check(STUCK, ("within", ("job", 0, "ready"), 1000, ("job", 0, "left")), False, 9)

    def test_within_where_the_first_one_never_holds(self):
        for number in (0, 1, 1000):
            self.check(EXAMPLE, ("within", NEVER, number, NEVER), True, None)

    def test_within_where_the_goal_ends_in_time(self):
        # The goal holds from 0 to 2 and from 8 on: it is missing within 2 of 3, at which something happens.
        goal = ("or", ("job", 1, "absent"), ("job", 0, "left"))
        self.check(EXAMPLE, ("within", ALWAYS, 4, goal), False, 3)
        self.check(EXAMPLE, ("within", ALWAYS, 5, goal), True, None)
        self.check(EXAMPLE, ("within", ("not", ("job", 2, "absent")), 3, goal), False, 4)

    def test_within_more_than_a_saying_may(self):
        self.check(EXAMPLE, ("within", ALWAYS, 5000, ("job", 1, "left")), True, None)

    def test_a_model_without_jobs(self):
        nobody = count("there", None, "=", 0)
        self.check(EMPTY, ("always", nobody), True, None)
        self.check(EMPTY, ("always", ("not", nobody)), False, 0)
        self.check(EMPTY, ("ever", nobody), True, 0)
        self.check(EMPTY, ("ever", ("not", nobody)), False, None)
        self.check(EMPTY, ("until", NEVER, nobody), True, 0)
        self.check(EMPTY, ("until", NEVER, NEVER), False, 0)
        self.check(EMPTY, ("within", nobody, 0, nobody), True, None)
        self.check(EMPTY, ("within", nobody, 3, ("not", nobody)), False, 0)
        self.check(EMPTY, ("within", ("not", nobody), 3, nobody), True, None)

    def test_a_model_in_which_nothing_happens_at_first(self):
        made = simple(["a 1 1"], ["x 0 a:3"], "900 x")
        self.check(made, ("always", count("there", "a", "=", 0)), False, 900)
        self.check(made, ("ever", ("job", 0, "left")), True, 903)
        self.check(made, ("until", ("job", 0, "absent"), ("job", 0, "served")), True, 900)
        self.check(made, ("within", ALWAYS, 902, ("job", 0, "left")), False, 0)
        self.check(made, ("within", ALWAYS, 903, ("job", 0, "left")), True, None)

    def test_many_models(self):
        found = []
        for number in range(150):
            chance = random.Random(number)
            made = some_model(number)
            trace = slow_trace(made)
            rows = slow_places(made, (trace[-1][0] if trace else 0) + 2)
            for _ in range(12):
                saying = some_saying(chance, made)
                expected = slow_answer(rows, saying)
                self.assertEqual(answer(made, trace, saying), expected, (number, saying))
                found.append((saying[0], expected[0], expected[1] is None, expected[1] == 0))
        for word, truth in (("always", True), ("ever", False), ("until", False), ("within", True)):
            self.assertIn((word, truth, True, False), found)
        for word, truth in (("always", False), ("ever", True), ("until", True), ("until", False), ("within", False)):
            self.assertIn((word, truth, False, False), found)
            self.assertIn((word, truth, False, True), found)


class NothingIsModifiedTest(unittest.TestCase):
    def test_the_arguments_stay(self):
        saying = ("within", ("not", ("job", 1, "ready")), 3, ("or", ALWAYS, count("there", "b", "=", 1)))
        trace = event_run(EXAMPLE)
        before = copy.deepcopy((EXAMPLE, trace, saying))
        answer(EXAMPLE, trace, saying)
        answer(EXAMPLE, trace, ("until", saying[1], saying[3]))
        holds_at(EXAMPLE, trace, saying[3], 5)
        self.assertEqual((EXAMPLE, trace, saying), before)


class InterfaceTest(unittest.TestCase):
    def test_names_and_arguments(self):
        arguments = {
            "holds_at": ["some_model", "events", "condition", "time"],
            "answer": ["some_model", "events", "saying"],
        }
        for name, expected in arguments.items():
            with self.subTest(name):
                function = getattr(sayings, name)
                self.assertEqual(list(inspect.signature(function).parameters), expected)
                self.assertEqual(function.__module__, sayings.__name__)


if __name__ == "__main__":
    unittest.main()
