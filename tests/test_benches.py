import copy
import inspect
import random
import unittest

from eventsteps import benches
from eventsteps.benches import Bench, replayed
from eventsteps.errors import BenchError, ModelError, StepError
from eventsteps.models import model
from eventsteps.runs import event_run, state_at
from reference import events_of, kind_of, slow_trace, some_kinds, some_stations, stations_of, told_state

STATIONS = stations_of("b 1 1", "a 1 1")
KINDS = [kind_of("y 2 b:2"), kind_of("x 0 a:3 b:5")]


def new_bench(*deeds):
    """A bench on which these deeds are done, each told by a string of words."""
    bench = Bench(STATIONS, KINDS)
    do(bench, *deeds)
    return bench


def do(bench, *deeds):
    for deed in deeds:
        name, *values = deed.split()
        found = getattr(bench, name)(*[int(value) if value.isdigit() else value for value in values])
        assert name == "undo" or found is None


def told(bench):
    """All that a bench tells of itself."""
    return (bench.model, bench.now, bench.log, bench.trace, bench.state, bench.kept, len(bench), list(bench))


def taken_back(bench):
    """What a bench tells as all its deeds are taken back, one by one."""
    twin = bench.branch()
    rows = [(None, told(twin))]
    while twin.log:
        rows.append((twin.undo(), told(twin)))
    return rows


def with_all(bench):
    """What there is to know of a bench: what it tells, what can be taken back, and what is kept under its names."""
    rows = [told(bench), taken_back(bench)]
    for name in bench.kept:
        twin = bench.branch()
        twin.back(name)
        rows.append((name, told(twin)))
    return rows


class BenchTest(unittest.TestCase):
    def check(self, bench, jobs="", pauses=(), now=0, kept=""):
        """Expect what a bench with STATIONS and KINDS tells; the jobs as a string of times and kinds."""
        words = jobs.split()
        pairs = [(int(time), kind) for time, kind in zip(words[::2], words[1::2])]
        made = model(STATIONS, KINDS, list(pauses), pairs)
        self.assertEqual(bench.model, made)
        self.assertEqual(bench.now, now)
        self.assertEqual(bench.kept, kept.split())
        events = [event for event in slow_trace(made) if event[0] < now]
        self.assertEqual(bench.trace, events)
        self.assertEqual(len(bench), len(events))
        self.assertEqual(list(bench), events)
        self.assertEqual(bench.state, told_state(made, events, now))
        self.assertEqual(bench.state, state_at(made, now))


class DeedsTest(BenchTest):
    def test_at_first(self):
        bench = new_bench()
        self.check(bench)
        self.assertEqual(bench.model, (tuple(sorted(STATIONS)), tuple(sorted(KINDS)), (), ()))
        self.assertEqual((bench.log, bench.trace, bench.kept, len(bench)), ([], [], [], 0))
        self.assertEqual(bench.state, (0, ((), ()), ((), ()), (), ()))

    def test_wrong_stations_and_kinds(self):
        for stations, kinds, what, place in (
            ([], KINDS, "wrong number of stations", 0),
            ([("A", 1, 1, "first")], KINDS, "wrong name", 0),
            (STATIONS + [("b", 1, 1, "last")], KINDS, "named twice", 2),
            (STATIONS, [], "wrong number of kinds", 0),
            (STATIONS, [KINDS[0], ("z", 0, (("c", 1),))], "wrong route", 1),
        ):
            for make in (lambda: Bench(stations, kinds), lambda: replayed(stations, kinds, [])):
                with self.assertRaises(ModelError) as caught:
                    make()
                self.assertEqual((caught.exception.what, caught.exception.place), (what, place))

    def test_send(self):
        bench = new_bench("send 3 x")
        self.check(bench, "3 x")
        do(bench, "send 3 y", "send 7 x", "send 7 x")
        self.check(bench, "3 x 3 y 7 x 7 x")
        self.assertEqual(bench.state, (0, ((), ()), ((), ()), (), (-1, -1, -1, -1)))

    def test_send_at_the_now(self):
        bench = new_bench("send 0 x", "go 5", "send 5 y")
        self.check(bench, "0 x 5 y", now=5)
        do(bench, "go 6")
        self.check(bench, "0 x 5 y", now=6)
        self.assertIn((5, "lost", 1, "b"), bench.trace)

    def test_pause(self):
        bench = new_bench("pause b 4 9")
        self.check(bench, pauses=[("b", 4, 9)])
        do(bench, "pause a 20 30", "pause b 0 2", "pause a 3 8")
        self.check(bench, pauses=[("a", 3, 8), ("a", 20, 30), ("b", 0, 2), ("b", 4, 9)])
        self.assertEqual(bench.model[2], (("a", 3, 8), ("a", 20, 30), ("b", 0, 2), ("b", 4, 9)))

    def test_pause_at_the_now(self):
        bench = new_bench("send 0 x", "send 1 y", "go 3", "pause b 3 50", "go 40")
        self.check(bench, "0 x 1 y", [("b", 3, 50)], 40)
        self.assertEqual(bench.trace[-1], (3, "move", 0, "b"))

    def test_go(self):
        bench = new_bench("send 0 x", "send 3 x", "send 4 x")
        for time in (1, 2, 3, 4, 6, 7, 9, 13, 14, 15, 300, 20000):
            do(bench, f"go {time}")
            self.check(bench, "0 x 3 x 4 x", now=time)

    def test_only_the_events_ahead_of_the_now(self):
        bench = new_bench("send 0 x", "send 3 x", "go 3")
        self.assertEqual(bench.trace, events_of("0 come 0 a\n0 begin 0 a"))
        self.assertEqual(bench.state, (3, ((), ()), (((3, 0),), ()), (), (0, -1)))
        do(bench, "go 4")
        self.assertEqual(bench.trace[2:], events_of("""
            3 end 0 a
            3 move 0 b
            3 begin 0 b
            3 come 1 a
            3 begin 1 a
        """))
        self.assertEqual(bench.state, (4, ((), ()), (((6, 1),), ((8, 0),)), (), (1, 0)))

    def test_keep(self):
        bench = new_bench("send 0 x", "go 2", "keep one")
        self.check(bench, "0 x", now=2, kept="one")
        do(bench, "keep another", "go 9", "keep a1")
        self.check(bench, "0 x", now=9, kept="a1 another one")

    def test_back(self):
        bench = new_bench("send 0 x", "go 2", "keep one", "send 5 y", "pause a 7 9", "go 6")
        self.check(bench, "0 x 5 y", [("a", 7, 9)], 6, "one")
        do(bench, "back one")
        self.check(bench, "0 x", now=2, kept="one")
        do(bench, "send 3 y", "go 20")
        self.check(bench, "0 x 3 y", now=20, kept="one")
        do(bench, "back one")
        self.check(bench, "0 x", now=2, kept="one")
        do(bench, "back one")
        self.check(bench, "0 x", now=2, kept="one")

    def test_back_to_an_earlier_and_to_a_later_one(self):
        bench = new_bench("keep start", "send 4 x", "go 5", "keep late", "back start")
        self.check(bench, kept="late start")
        do(bench, "back late")
        self.check(bench, "4 x", now=5, kept="late start")
        do(bench, "back start", "pause b 0 5", "keep paused", "back late", "back paused")
        self.check(bench, pauses=[("b", 0, 5)], kept="late paused start")

    def test_keep_twice_under_one_name(self):
        bench = new_bench("send 0 x", "keep one", "go 5", "send 6 y", "keep one", "go 8", "back one")
        self.check(bench, "0 x 6 y", now=5, kept="one")
        do(bench, "undo", "undo", "undo", "back one")
        self.check(bench, "0 x", kept="one")

    def test_what_is_kept_does_not_change_with_the_bench(self):
        bench = new_bench("keep one", "send 0 x", "pause a 2 4", "go 3", "keep two", "send 7 y", "go 9", "back two")
        self.check(bench, "0 x", [("a", 2, 4)], 3, "one two")
        do(bench, "back one")
        self.check(bench, kept="one two")

    def test_the_kinds_of_values(self):
        bench = new_bench("send 0 x", "keep one", "go 4")
        self.assertEqual([type(part) for part in (bench.model, bench.now, bench.log, bench.trace, bench.state, bench.kept)],
                         [tuple, int, list, list, tuple, list])
        self.assertEqual({type(deed) for deed in bench.log}, {tuple})
        self.assertIs(type(len(bench)), int)


class RefusedTest(BenchTest):
    def refuse(self, bench, what, *deeds):
        """Expect each of these deeds to be refused with this word, and nothing to be changed by it."""
        for deed in deeds:
            before = with_all(bench)
            name, *values = deed
            with self.subTest(deed):
                with self.assertRaises(BenchError) as caught:
                    getattr(bench, name)(*values)
                self.assertEqual(caught.exception.what, what)
                self.assertIsInstance(caught.exception, StepError)
                self.assertEqual(with_all(bench), before)

    def test_send_ahead_of_the_now(self):
        bench = new_bench("go 5")
        self.refuse(bench, "past", ("send", 4, "x"), ("send", 0, "x"), ("send", -1, "x"))
        self.refuse(new_bench(), "past", ("send", -1, "x"))
        do(bench, "send 5 x")

    def test_send_ahead_of_the_last_job(self):
        bench = new_bench("go 5", "send 9 x", "send 20 y")
        self.refuse(bench, "order", ("send", 19, "x"), ("send", 9, "x"), ("send", 5, "y"))
        do(bench, "send 20 x")

    def test_send_too_late(self):
        bench = new_bench()
        self.refuse(bench, "late", ("send", 10001, "x"), ("send", 20000, "x"), ("send", 10 ** 6, "y"))
        do(bench, "send 10000 x", "send 10000 y")
        self.refuse(bench, "late", ("send", 10001, "x"))
        bench = new_bench("go 10001")
        self.refuse(bench, "late", ("send", 10001, "x"), ("send", 10002, "x"))
        self.refuse(bench, "past", ("send", 10000, "x"))

    def test_send_an_unknown_kind(self):
        self.refuse(new_bench("go 5"), "unknown kind", *[("send", 5, kind) for kind in ("z", "a", "", "xx", "X", "x ")])

    def test_send_too_many(self):
        bench = new_bench(*[f"send {time} x" for time in range(39)])
        do(bench, "send 50 y")
        self.assertEqual(len(bench.model[3]), 40)
        self.refuse(bench, "full", ("send", 50, "x"), ("send", 10000, "y"))
        do(bench, "undo", "send 60 y")
        self.assertEqual(bench.model[3][-1], (60, "y"))
        self.refuse(bench, "full", ("send", 60, "y"))

    def test_send_with_several_faults(self):
        bench = new_bench("send 9 x", "go 5")
        self.refuse(bench, "past", ("send", 4, "x"), ("send", 4, "z"), ("send", -5, ""))
        self.refuse(bench, "order", ("send", 8, "z"), ("send", 5, "z"))
        self.refuse(bench, "late", ("send", 10001, "z"))
        self.refuse(new_bench("go 15000"), "past", ("send", 14999, "x"), ("send", 10001, "z"))
        bench = new_bench(*["send 30 x"] * 40, "go 20")
        self.refuse(bench, "past", ("send", 19, "x"), ("send", 0, "z"))
        self.refuse(bench, "order", ("send", 29, "x"), ("send", 20, "z"))
        self.refuse(bench, "late", ("send", 10001, "x"), ("send", 10001, "z"))
        self.refuse(bench, "unknown kind", ("send", 30, "z"), ("send", 10000, "z"))
        self.refuse(bench, "full", ("send", 30, "x"))

    def test_pause_an_unknown_station(self):
        self.refuse(new_bench("go 5"), "unknown station", *[("pause", name, 6, 9) for name in ("c", "x", "", "A", "aa")])

    def test_pause_ahead_of_the_now(self):
        bench = new_bench("go 5")
        self.refuse(bench, "past", ("pause", "a", 4, 9), ("pause", "a", 0, 2), ("pause", "b", 4, 5))
        do(bench, "pause a 5 9")
        self.refuse(new_bench(), "past", ("pause", "a", -1, 9), ("pause", "a", -5, -2))

    def test_pause_at_wrong_times(self):
        bench = new_bench("go 5")
        self.refuse(bench, "wrong pause", ("pause", "a", 6, 6), ("pause", "a", 7, 6), ("pause", "a", 5, 5),
                    ("pause", "b", 9999, 10001), ("pause", "b", 10000, 10001), ("pause", "b", 10001, 10002),
                    ("pause", "a", 6, -1))
        do(bench, "pause b 9999 10000")

    def test_pauses_that_meet(self):
        bench = new_bench("pause a 10 20", "pause b 40 50")
        self.refuse(bench, "pauses meet", ("pause", "a", 20, 25), ("pause", "a", 5, 10), ("pause", "a", 12, 15),
                    ("pause", "a", 0, 100), ("pause", "a", 10, 20), ("pause", "a", 19, 30), ("pause", "a", 3, 11),
                    ("pause", "b", 50, 51))
        do(bench, "pause a 21 25", "pause a 5 9", "pause b 20 39", "pause b 51 60")
        self.refuse(bench, "pauses meet", ("pause", "a", 9, 10), ("pause", "a", 0, 5), ("pause", "b", 0, 20))

    def test_too_many_pauses(self):
        bench = new_bench(*[f"pause a {10 * at} {10 * at + 5}" for at in range(5)],
                          *[f"pause b {10 * at} {10 * at + 5}" for at in range(3)])
        self.assertEqual(len(bench.model[2]), 8)
        self.refuse(bench, "full", ("pause", "a", 70, 80), ("pause", "b", 70, 80), ("pause", "b", 6, 7))
        do(bench, "undo", "pause b 80 90")
        self.refuse(bench, "full", ("pause", "a", 70, 80))

    def test_pause_with_several_faults(self):
        bench = new_bench("pause a 10 20", "go 12")
        self.refuse(bench, "unknown station", ("pause", "c", 3, 9), ("pause", "c", 3, 2), ("pause", "c", 20, 20),
                    ("pause", "c", -1, 10001))
        self.refuse(bench, "past", ("pause", "a", 11, 11), ("pause", "a", 11, 15), ("pause", "b", 11, 3),
                    ("pause", "a", -1, 10001))
        self.refuse(bench, "wrong pause", ("pause", "a", 15, 15), ("pause", "a", 15, 10001), ("pause", "a", 20, 12))
        bench = new_bench(*[f"pause a {10 * at} {10 * at + 5}" for at in range(8)], "go 12")
        self.refuse(bench, "unknown station", ("pause", "c", 13, 15), ("pause", "c", 1, 5))
        self.refuse(bench, "past", ("pause", "b", 11, 15), ("pause", "a", 11, 15))
        self.refuse(bench, "wrong pause", ("pause", "b", 13, 13), ("pause", "a", 14, 13))
        self.refuse(bench, "pauses meet", ("pause", "a", 15, 16), ("pause", "a", 72, 90))
        self.refuse(bench, "full", ("pause", "b", 15, 16), ("pause", "a", 80, 90))

    def test_go_to_the_past(self):
        bench = new_bench("send 0 x", "go 5")
        self.refuse(bench, "past", ("go", 5), ("go", 4), ("go", 0), ("go", -1))
        self.refuse(new_bench(), "past", ("go", 0), ("go", -1))
        do(bench, "go 6")

    def test_go_too_late(self):
        bench = new_bench("send 0 x", "go 5")
        self.refuse(bench, "late", ("go", 20001), ("go", 10 ** 6))
        do(bench, "go 20000")
        self.check(bench, "0 x", now=20000)
        self.refuse(bench, "past", ("go", 20000), ("go", 19999))
        self.refuse(bench, "late", ("go", 20001))

    def test_keep_under_wrong_names(self):
        names = ("", "A", "1", "1a", "a b", "a_b", "a-", "abcdefghi", "aB", " a", "a ", "a\n", "~", "{", "`")
        self.refuse(new_bench("send 0 x"), "wrong name", *[("keep", name) for name in names])
        bench = new_bench("keep a", "keep z", "keep abcdefgh", "keep a1234567", "keep z0z")
        self.refuse(bench, "wrong name", *[("keep", name) for name in names])
        self.check(bench, kept="a a1234567 abcdefgh z z0z")

    def test_keep_under_a_sixth_name(self):
        bench = new_bench("keep e", "send 0 x", "keep d", "go 3", "keep c", "keep b", "keep a")
        self.refuse(bench, "full", ("keep", "f"), ("keep", "aa"), ("keep", "abcdefgh"))
        do(bench, "go 4", "keep d", "keep e", "keep a")
        self.refuse(bench, "full", ("keep", "f"))
        do(bench, "back d")
        self.check(bench, "0 x", now=4, kept="a b c d e")
        do(bench, "undo", "undo")
        self.refuse(bench, "full", ("keep", "f"))
        do(bench, "undo", "undo", "undo", "undo", "keep f")
        self.check(bench, "0 x", now=3, kept="b c d e f")
        self.refuse(bench, "full", ("keep", "a"))

    def test_back_to_an_unknown_name(self):
        bench = new_bench("keep one", "send 0 x", "keep two")
        self.refuse(bench, "unknown name", ("back", "three"), ("back", ""), ("back", "One"), ("back", "on"), ("back", "one "))
        do(bench, "undo")
        self.refuse(bench, "unknown name", ("back", "two"))
        do(bench, "back one")
        self.refuse(new_bench(), "unknown name", ("back", "one"), ("back", ""))

    def test_a_bench_goes_on_behind_a_refused_deed(self):
        bench = new_bench("send 3 x", "go 4")
        self.refuse(bench, "past", ("send", 3, "x"))
        do(bench, "send 4 y", "go 5")
        self.check(bench, "3 x 4 y", now=5)
        self.assertEqual(bench.log, [("send", 3, "x"), ("go", 4), ("send", 4, "y"), ("go", 5)])


class UndoTest(BenchTest):
    def test_none(self):
        bench = new_bench()
        self.assertIs(bench.undo(), False)
        self.assertIs(bench.undo(), False)
        self.check(bench)
        self.assertEqual(bench.log, [])

    def test_each_deed(self):
        for deed in ("send 5 y", "pause b 7 9", "go 6", "keep two", "keep one", "back one"):
            bench = new_bench("send 1 x", "keep one", "pause a 3 5", "go 4")
            before = with_all(bench)
            do(bench, deed)
            self.assertNotEqual(with_all(bench), before)
            self.assertEqual(bench.undo(), deed.split()[0])
            self.assertEqual(with_all(bench), before)
            self.check(bench, "1 x", [("a", 3, 5)], 4, "one")

    def test_all(self):
        deeds = ["send 1 x", "keep one", "pause a 3 5", "go 4", "keep two", "back one", "send 2 y", "keep one", "back two",
                 "go 9", "back one", "back one"]
        bench = new_bench()
        rows = [with_all(bench)]
        for deed in deeds:
            do(bench, deed)
            rows.append(with_all(bench))
        for deed in reversed(deeds):
            self.assertEqual(with_all(bench), rows.pop())
            self.assertEqual(bench.undo(), deed.split()[0])
        self.assertEqual(with_all(bench), rows.pop())
        self.assertIs(bench.undo(), False)
        self.check(bench)
        self.assertEqual(bench, new_bench())

    def test_a_deed_behind_an_undo(self):
        bench = new_bench("send 1 x", "go 5", "undo", "send 2 y", "go 3")
        self.check(bench, "1 x 2 y", now=3)
        self.assertEqual([bench.undo() for _ in range(4)], ["go", "send", "send", False])

    def test_keep_in_the_place_of_an_earlier_one(self):
        bench = new_bench("send 1 x", "keep one", "go 5", "keep one", "undo", "back one")
        self.check(bench, "1 x", kept="one")


class LogTest(BenchTest):
    def test_behind_each_deed(self):
        bench = new_bench()
        log = []
        for deed in (("send", 1, "x"), ("keep", "one"), ("pause", "a", 3, 5), ("go", 4), ("back", "one"), ("send", 1, "y")):
            getattr(bench, deed[0])(*deed[1:])
            log.append(deed)
            self.assertEqual(bench.log, log)
        for _ in range(6):
            bench.undo()
            log.pop()
            self.assertEqual(bench.log, log)
        bench.undo()
        self.assertEqual(bench.log, [])

    def test_replayed(self):
        for deeds in (
            (),
            ("send 1 x",),
            ("send 1 x", "keep one", "pause a 3 5", "go 4", "back one", "send 1 y", "go 7", "keep two", "keep one"),
            ("go 5", "pause b 5 9", "keep a", "send 6 y", "go 20", "back a", "back a"),
        ):
            bench = new_bench(*deeds)
            again = replayed(STATIONS, KINDS, bench.log)
            self.assertIs(type(again), Bench)
            self.assertEqual(with_all(again), with_all(bench))
            self.assertEqual(again, bench)

    def test_replayed_of_less_and_of_more(self):
        bench = new_bench("send 1 x", "go 4", "send 9 y")
        again = replayed(STATIONS, KINDS, bench.log[:2])
        self.check(again, "1 x", now=4)
        again = replayed(STATIONS, KINDS, bench.log + [("go", 20)])
        self.check(again, "1 x 9 y", now=20)

    def test_replayed_with_other_stations(self):
        bench = new_bench("send 1 x", "send 1 x", "go 30")
        again = replayed(stations_of("a 2 -", "b 1 -"), KINDS, bench.log)
        self.assertEqual(again.log, bench.log)
        self.assertEqual(again.trace, event_run(model(stations_of("a 2 -", "b 1 -"), KINDS, [], [(1, "x"), (1, "x")])))

    def test_a_refused_log(self):
        for log, what in (
            ([("send", 5, "x"), ("send", 4, "x")], "order"),
            ([("go", 5), ("send", 4, "x")], "past"),
            ([("send", 5, "x"), ("send", 5, "z"), ("go", 0)], "unknown kind"),
            ([("pause", "a", 5, 6), ("pause", "a", 6, 7)], "pauses meet"),
            ([("go", 5), ("go", 5)], "past"),
            ([("keep", "A")], "wrong name"),
            ([("keep", "a"), ("back", "b")], "unknown name"),
        ):
            with self.subTest(log):
                with self.assertRaises(BenchError) as caught:
                    replayed(STATIONS, KINDS, log)
                self.assertEqual(caught.exception.what, what)

    def test_the_log_stays(self):
        log = [("send", 1, "x"), ("keep", "one"), ("go", 4), ("back", "one")]
        before = copy.deepcopy(log)
        bench = replayed(STATIONS, KINDS, log)
        bench.go(9)
        bench.undo()
        bench.undo()
        self.assertEqual(log, before)
        log.clear()
        self.assertEqual(bench.log, before[:3])


class BranchTest(BenchTest):
    DEEDS = ("send 1 x", "keep one", "pause a 3 5", "go 4", "keep two", "send 6 y", "back one", "send 3 y")

    def test_it_is_like_the_bench(self):
        for many in range(len(self.DEEDS) + 1):
            bench = new_bench(*self.DEEDS[:many])
            branch = bench.branch()
            self.assertIs(type(branch), Bench)
            self.assertIsNot(branch, bench)
            self.assertEqual(branch, bench)
            self.assertEqual(with_all(branch), with_all(bench))

    def test_a_branch_goes_on_without_changing_the_bench_and_the_other_way_round(self):
        for deed in ("send 3 x", "pause b 7 9", "go 6", "keep three", "keep one", "back two", "undo"):
            bench = new_bench(*self.DEEDS)
            branch = bench.branch()
            before = with_all(bench)
            do(branch, deed)
            self.assertNotEqual(with_all(branch), before)
            self.assertEqual(with_all(bench), before)
            bench, branch = branch, new_bench(*self.DEEDS).branch()
            other = branch.branch()
            do(branch, deed)
            self.assertEqual(with_all(other), before)
            self.assertEqual(with_all(branch), with_all(bench))

    def test_undo_of_all_in_a_branch(self):
        bench = new_bench(*self.DEEDS)
        before = with_all(bench)
        branch = bench.branch()
        self.assertEqual([branch.undo() for _ in range(9)], [deed.split()[0] for deed in reversed(self.DEEDS)] + [False])
        self.assertEqual(with_all(bench), before)
        branch = bench.branch()
        while bench.undo():
            self.assertEqual(with_all(branch), before)
        self.check(bench)
        self.assertEqual(with_all(branch), before)

    def test_a_branch_of_a_branch(self):
        bench = new_bench("send 1 x")
        branch = bench.branch()
        do(branch, "go 4")
        twig = branch.branch()
        do(twig, "send 5 y")
        do(branch, "undo", "undo")
        self.check(bench, "1 x")
        self.check(branch)
        self.check(twig, "1 x 5 y", now=4)
        self.assertEqual([twig.undo() for _ in range(4)], ["send", "go", "send", False])

    def test_a_refused_deed_of_a_branch(self):
        bench = new_bench(*self.DEEDS)
        before = with_all(bench)
        branch = bench.branch()
        with self.assertRaises(BenchError):
            branch.send(2, "x")
        self.assertEqual(with_all(branch), before)
        self.assertEqual(with_all(bench), before)


class WalkTest(BenchTest):
    def test_len_and_the_walk(self):
        bench = new_bench("send 0 x", "send 3 x", "send 4 x")
        for time, many in ((1, 2), (3, 2), (4, 7), (5, 8), (7, 10), (9, 14), (13, 14), (14, 16), (100, 16)):
            do(bench, f"go {time}")
            self.assertEqual(len(bench), many)
            self.assertEqual([event for event in bench], bench.trace)
            self.assertEqual(len(list(bench)), many)
        self.assertEqual(bench.trace, event_run(bench.model))

    def test_two_walks_at_once(self):
        bench = new_bench("send 0 x", "go 9")
        self.assertEqual([(one, other) for one in bench for other in bench],
                         [(one, other) for one in bench.trace for other in bench.trace])

    def test_of_a_bench_without_events(self):
        self.assertEqual((len(new_bench()), list(new_bench())), (0, []))
        self.assertEqual(len(new_bench("send 5 x", "go 5")), 0)

    def test_the_bench_may_change_during_a_walk(self):
        bench = new_bench("send 0 x", "go 9")
        expected = bench.trace
        found = []
        for event in bench:
            found.append(event)
            bench.undo()
            do(bench, f"go {9 + len(found)}")
        self.assertEqual(found, expected)


class EqualityTest(BenchTest):
    def check_equal(self, bench, other, truth):
        self.assertIs(bench == other, truth)
        self.assertIs(other == bench, truth)
        self.assertIs(bench != other, not truth)
        self.assertIs(other != bench, not truth)

    def test_new_ones(self):
        self.check_equal(new_bench(), new_bench(), True)
        self.check_equal(new_bench(), Bench(STATIONS[::-1], KINDS[::-1]), True)
        bench = new_bench("send 0 x")
        self.check_equal(bench, bench, True)

    def test_by_the_model(self):
        self.check_equal(new_bench("send 3 x"), new_bench("send 3 x"), True)
        self.check_equal(new_bench("send 3 x"), new_bench("send 3 y"), False)
        self.check_equal(new_bench("send 3 x"), new_bench("send 4 x"), False)
        self.check_equal(new_bench("send 3 x"), new_bench(), False)
        self.check_equal(new_bench("pause a 3 5"), new_bench("pause a 3 6"), False)
        self.check_equal(new_bench("pause a 3 5", "pause b 1 2"), new_bench("pause b 1 2", "pause a 3 5"), True)
        self.check_equal(new_bench(), Bench(stations_of("a 1 1", "b 1 2"), KINDS), False)
        self.check_equal(new_bench(), Bench(STATIONS, KINDS[:1]), False)

    def test_by_the_now(self):
        self.check_equal(new_bench("go 5"), new_bench("go 6"), False)
        self.check_equal(new_bench("go 5"), new_bench(), False)
        self.check_equal(new_bench("go 5"), new_bench("go 3", "go 5"), True)
        self.check_equal(new_bench("send 7 x", "go 5"), new_bench("go 5", "send 7 x"), True)

    def test_by_the_names_under_which_something_is_kept(self):
        self.check_equal(new_bench("keep a"), new_bench(), False)
        self.check_equal(new_bench("keep a"), new_bench("keep b"), False)
        self.check_equal(new_bench("keep a"), new_bench("keep a", "keep b"), False)
        self.check_equal(new_bench("keep b", "keep a"), new_bench("keep a", "keep b"), True)
        self.check_equal(new_bench("keep a", "keep a"), new_bench("keep a"), True)

    def test_by_what_is_kept_under_the_names(self):
        self.check_equal(new_bench("keep a", "go 5"), new_bench("go 5", "keep a"), False)
        self.check_equal(new_bench("keep a", "send 5 x"), new_bench("send 5 x", "keep a"), False)
        self.check_equal(new_bench("keep a", "send 5 x", "keep a"), new_bench("send 5 x", "keep a"), True)
        self.check_equal(new_bench("go 2", "keep a", "go 5"), new_bench("go 3", "keep a", "go 5"), False)

    def test_the_log_does_not_count(self):
        self.check_equal(new_bench("send 3 x", "go 2", "undo", "undo"), new_bench(), True)
        self.check_equal(new_bench("keep a", "go 5", "back a"), new_bench("keep a"), True)
        self.check_equal(new_bench("keep a", "keep b", "back a"), new_bench("keep b", "keep a"), True)

    def test_with_a_value_that_is_no_bench(self):
        bench = new_bench("send 0 x", "go 2")
        for value in (None, 0, "bench", [], bench.trace, bench.model, (bench.model, bench.now), {}):
            self.assertIs(bench.__eq__(value), NotImplemented)
            self.check_equal(bench, value, False)

    def test_a_bench_has_no_hash(self):
        with self.assertRaises(TypeError):
            hash(new_bench())
        self.assertIsNone(Bench.__hash__)


class TraceOnlyGetsLongerTest(BenchTest):
    def test_as_long_as_only_send_pause_and_go_are_done(self):
        longest = 0
        for number in range(60):
            chance = random.Random(number)
            stations = some_stations(chance)
            kinds = some_kinds(chance, stations, 5)
            bench = Bench(stations, kinds)
            earlier = []
            for _ in range(25):
                self.do_something(chance, bench, stations, kinds)
                found = bench.trace
                self.assertEqual(found[:len(earlier)], earlier)
                earlier = found
            self.assertEqual(earlier, [event for event in slow_trace(bench.model) if event[0] < bench.now])
            longest = max(longest, len(earlier))
        self.assertGreater(longest, 30)

    def do_something(self, chance, bench, stations, kinds):
        time = bench.now + chance.randint(0, 3)
        try:
            word = chance.choice(("send", "send", "go", "pause"))
            if word == "send":
                bench.send(time, chance.choice(kinds)[0])
            if word == "go":
                bench.go(time)
            if word == "pause":
                bench.pause(chance.choice(stations)[0], time, time + chance.randint(1, 6))
        except BenchError:
            pass


class ManyDeedsTest(unittest.TestCase):
    """Deeds by chance, and what follows from the words of the document, told by going through all of them again."""

    WORDS = ("send", "send", "send", "pause", "go", "go", "keep", "back", "undo", "undo")

    def some_deed(self, chance, stations, kinds):
        word = chance.choice(self.WORDS)
        time = chance.randint(0, 30)
        return {
            "send": (word, time, chance.choice([*[name for name, _, _ in kinds], "zz"])),
            "pause": (word, chance.choice([*[name for name, _, _, _ in stations], "zz"]), time, time + chance.randint(0, 9)),
            "go": (word, time),
            "keep": (word, chance.choice(("one", "two", "No"))),
            "back": (word, chance.choice(("one", "two", "three"))),
            "undo": (word,),
        }[word]

    def told_model(self, stations, kinds, log):
        """The model, the now and what is kept behind a list of deeds."""
        jobs, pauses, now, kept = [], [], 0, {}
        for word, *values in log:
            if word == "send":
                jobs = [*jobs, tuple(values)]
            if word == "pause":
                pauses = [*pauses, tuple(values)]
            if word == "go":
                now = values[0]
            if word == "keep":
                kept = {**kept, values[0]: (jobs, pauses, now)}
            if word == "back":
                jobs, pauses, now = kept[values[0]]
        return model(stations, kinds, pauses, jobs), now, sorted(kept)

    def test_many(self):
        done = {}
        for number in range(40):
            chance = random.Random(number)
            stations = some_stations(chance)
            kinds = some_kinds(chance, stations, 5)
            bench, log = Bench(stations, kinds), []
            for _ in range(30):
                word, *values = self.some_deed(chance, stations, kinds)
                try:
                    found = getattr(bench, word)(*values)
                    self.assertEqual(found, None if word != "undo" else log.pop()[0] if log else False)
                    log += [(word, *values)] if word != "undo" else []
                    done[word] = done.get(word, 0) + 1
                except BenchError:
                    done["refused"] = done.get("refused", 0) + 1
                made, now, kept = self.told_model(stations, kinds, log)
                self.assertEqual((bench.model, bench.now, bench.kept, bench.log), (made, now, kept, log))
            events = [event for event in slow_trace(made) if event[0] < now]
            self.assertEqual((bench.trace, list(bench), len(bench)), (events, events, len(events)))
            self.assertEqual(bench.state, told_state(made, events, now))
            self.assertEqual(replayed(stations, kinds, log), bench)
            self.assertEqual(with_all(replayed(stations, kinds, log)), with_all(bench))
        self.assertEqual(len(done), 7)
        self.assertGreater(min(done.values()), 15)


class NothingIsModifiedTest(unittest.TestCase):
    def test_the_arguments_stay(self):
        stations, kinds = list(STATIONS), list(KINDS)
        bench = Bench(stations, kinds)
        do(bench, "send 0 x", "pause a 3 4", "go 5")
        self.assertEqual((stations, kinds), (STATIONS, KINDS))
        before = told(bench)
        stations.clear()
        kinds.reverse()
        self.assertEqual(told(bench), before)

    def test_lists_are_new(self):
        bench = new_bench("send 0 x", "keep one", "go 5")
        before = with_all(bench)
        for get in (lambda: bench.log, lambda: bench.trace, lambda: bench.kept):
            found = get()
            self.assertIsNot(get(), get())
            found.append("nothing")
            found.reverse()
            get().clear()
            self.assertEqual(with_all(bench), before)


class InterfaceTest(unittest.TestCase):
    PROPERTIES = ("model", "now", "log", "trace", "state", "kept")
    METHODS = {
        "__init__": ["self", "stations", "kinds"],
        "send": ["self", "time", "kind"],
        "pause": ["self", "name", "begin", "end"],
        "go": ["self", "time"],
        "keep": ["self", "name"],
        "back": ["self", "name"],
        "undo": ["self"],
        "branch": ["self"],
        "__len__": ["self"],
        "__iter__": ["self"],
        "__eq__": ["self", "other"],
    }

    def test_the_methods_stand_in_the_body_of_the_class(self):
        for name, expected in self.METHODS.items():
            with self.subTest(name):
                self.assertIn(name, vars(Bench))
                self.assertEqual(list(inspect.signature(vars(Bench)[name]).parameters), expected)

    def test_properties_cannot_be_set(self):
        bench = new_bench("send 0 x", "keep one", "go 5")
        before = with_all(bench)
        for name in self.PROPERTIES:
            with self.subTest(name):
                self.assertIsInstance(vars(Bench)[name], property)
                self.assertIsNone(vars(Bench)[name].fset)
                with self.assertRaises(AttributeError):
                    setattr(bench, name, getattr(bench, name))
                with self.assertRaises(AttributeError):
                    delattr(bench, name)
        self.assertEqual(with_all(bench), before)

    def test_names_and_arguments(self):
        self.assertEqual(list(inspect.signature(replayed).parameters), ["stations", "kinds", "log"])
        self.assertEqual(replayed.__module__, benches.__name__)
        self.assertEqual(Bench.__module__, benches.__name__)


if __name__ == "__main__":
    unittest.main()
