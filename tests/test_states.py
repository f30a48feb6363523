import copy
import inspect
import unittest

from eventsteps import states
from eventsteps.runs import event_run, state_at, stepped_run
from eventsteps.states import first_state, happen, next_time
from reference import events_of, last_time, simple, slow_trace, some_model, told_state


class TraceTest(unittest.TestCase):
    def check(self, some_model, text):
        """Expect these events, by both runs and by the slow one of the tests."""
        expected = events_of(text)
        self.assertEqual(event_run(some_model), expected)
        self.assertEqual(stepped_run(some_model, 1), expected)
        self.assertEqual(slow_trace(some_model), expected)


class EndsTest(TraceTest):
    def test_one_job_alone(self):
        self.check(simple(["a 1 1"], ["x 0 a:3"], "2 x"), """
            2 come 0 a
            2 begin 0 a
            5 end 0 a
            5 leave 0 a
        """)

    def test_ends_at_one_time_go_in_the_order_of_the_jobs(self):
        made = simple(["a 1 -", "b 1 -", "c 1 -"], ["p 0 c:5", "q 0 a:5", "r 0 b:4"], "0 p 0 q 1 r")
        self.check(made, """
            0 come 0 c
            0 come 1 a
            0 begin 1 a
            0 begin 0 c
            1 come 2 b
            1 begin 2 b
            5 end 0 c
            5 end 1 a
            5 end 2 b
            5 leave 0 c
            5 leave 1 a
            5 leave 2 b
        """)

    def test_ends_at_one_station_that_began_in_another_order(self):
        made = simple(["a 3 - last"], ["p 0 a:5", "q 0 a:4"], "0 p 0 p 1 q")
        self.check(made, """
            0 come 0 a
            0 come 1 a
            0 begin 1 a
            0 begin 0 a
            1 come 2 a
            1 begin 2 a
            5 end 0 a
            5 end 1 a
            5 end 2 a
            5 leave 0 a
            5 leave 1 a
            5 leave 2 a
        """)

    def test_all_ends_come_ahead_of_the_settling(self):
        made = simple(["a 1 1", "b 1 1"], ["p 0 a:2", "q 0 b:2"], "0 p 0 q")
        self.assertEqual([word for time, word, _, _ in event_run(made) if time == 2], ["end", "end", "leave", "leave"])


class ComingTest(TraceTest):
    def test_lost_where_the_first_station_is_full(self):
        self.check(simple(["a 1 1", "b 1 1"], ["x 0 a:3 b:5"], "0 x 1 x 2 x"), """
            0 come 0 a
            0 begin 0 a
            1 lost 1 a
            2 lost 2 a
            3 end 0 a
            3 move 0 b
            3 begin 0 b
            8 end 0 b
            8 leave 0 b
        """)

    def test_full_of_jobs_that_wait(self):
        self.check(simple(["a 1 2"], ["x 0 a:3"], "0 x 0 x 0 x", [("a", 0, 1)]), """
            0 come 0 a
            0 come 1 a
            0 lost 2 a
            1 begin 0 a
            4 end 0 a
            4 leave 0 a
            4 begin 1 a
            7 end 1 a
            7 leave 1 a
        """)

    def test_full_of_a_job_that_waits_and_one_that_is_served(self):
        self.check(simple(["a 1 2"], ["x 0 a:3"], "0 x 1 x 2 x"), """
            0 come 0 a
            0 begin 0 a
            1 come 1 a
            2 lost 2 a
            3 end 0 a
            3 leave 0 a
            3 begin 1 a
            6 end 1 a
            6 leave 1 a
        """)

    def test_full_of_ready_jobs(self):
        self.check(simple(["a 1 1", "b 1 1"], ["p 0 a:1 b:1", "q 0 b:5"], "0 p 0 q 3 p"), """
            0 come 0 a
            0 come 1 b
            0 begin 0 a
            0 begin 1 b
            1 end 0 a
            1 block 0 a
            3 lost 2 a
            5 end 1 b
            5 leave 1 b
            5 move 0 b
            5 begin 0 b
            6 end 0 b
            6 leave 0 b
        """)

    def test_a_job_that_frees_a_place_at_the_same_time_leaves_it_to_one_that_comes(self):
        self.check(simple(["a 1 1"], ["x 0 a:3"], "0 x 3 x 3 x"), """
            0 come 0 a
            0 begin 0 a
            3 end 0 a
            3 leave 0 a
            3 come 1 a
            3 lost 2 a
            3 begin 1 a
            6 end 1 a
            6 leave 1 a
        """)

    def test_a_place_that_is_freed_goes_to_a_ready_job_ahead_of_one_that_comes(self):
        self.check(simple(["a 1 1", "b 1 1"], ["p 0 a:2 b:1", "q 0 b:4"], "0 p 0 q 4 q"), """
            0 come 0 a
            0 come 1 b
            0 begin 0 a
            0 begin 1 b
            2 end 0 a
            2 block 0 a
            4 end 1 b
            4 leave 1 b
            4 move 0 b
            4 begin 0 b
            4 lost 2 b
            5 end 0 b
            5 leave 0 b
        """)

    def test_a_server_that_is_freed_goes_to_a_job_that_waits_ahead_of_one_that_comes(self):
        self.check(simple(["a 1 - last"], ["x 0 a:3"], "0 x 1 x 3 x"), """
            0 come 0 a
            0 begin 0 a
            1 come 1 a
            3 end 0 a
            3 leave 0 a
            3 begin 1 a
            3 come 2 a
            6 end 1 a
            6 leave 1 a
            6 begin 2 a
            9 end 2 a
            9 leave 2 a
        """)

    def test_jobs_of_one_time_all_come_and_then_begin(self):
        self.check(simple(["a 1 - last", "b 2 -"], ["x 0 a:1", "y 0 b:9"], "1 y 1 x 1 x 1 y"), """
            1 come 0 b
            1 come 1 a
            1 come 2 a
            1 come 3 b
            1 begin 2 a
            1 begin 0 b
            1 begin 3 b
            2 end 2 a
            2 leave 2 a
            2 begin 1 a
            3 end 1 a
            3 leave 1 a
            10 end 0 b
            10 end 3 b
            10 leave 0 b
            10 leave 3 b
        """)

    def test_only_the_first_station_of_the_route_counts(self):
        made = simple(["a 1 1", "b 1 1"], ["p 0 a:9", "q 0 b:1 a:1"], "0 p 1 q")
        self.assertEqual(event_run(made)[2:4], events_of("1 come 1 b\n1 begin 1 b"))
        self.check(simple(["a 1 1", "b 1 1"], ["p 0 a:2", "q 0 a:1 b:1"], "0 p 1 q"), """
            0 come 0 a
            0 begin 0 a
            1 lost 1 a
            2 end 0 a
            2 leave 0 a
        """)


class MovingTest(TraceTest):
    def test_block_is_only_told_of_who_is_still_ready(self):
        made = simple(["a 2 2", "b 1 1"], ["p 0 a:3 b:4"], "0 p 0 p")
        self.check(made, """
            0 come 0 a
            0 come 1 a
            0 begin 0 a
            0 begin 1 a
            3 end 0 a
            3 end 1 a
            3 move 0 b
            3 begin 0 b
            3 block 1 a
            7 end 0 b
            7 leave 0 b
            7 move 1 b
            7 begin 1 b
            11 end 1 b
            11 leave 1 b
        """)

    def test_block_is_told_once(self):
        made = simple(["a 1 1", "b 1 1"], ["p 0 a:1 b:1", "q 0 b:9", "r 0 a:1"], "0 p 0 q 2 r 5 r")
        self.assertEqual([event for event in event_run(made) if event[1] == "block"], [(1, "block", 0, "a")])

    def test_blocks_go_in_the_order_of_the_jobs_and_come_last(self):
        made = simple(["a 1 1", "b 1 1", "c 1 1"], ["p 0 b:2 c:1", "q 0 a:2 c:1", "r 0 c:9"], "0 r 0 p 0 q 2 p 2 r")
        self.assertEqual([event for event in event_run(made) if event[0] == 2], events_of("""
            2 end 1 b
            2 end 2 a
            2 lost 3 b
            2 lost 4 c
            2 block 1 b
            2 block 2 a
        """))

    def test_a_move_makes_room_for_another_one_in_the_same_round(self):
        self.check(simple(["a 1 1", "b 1 1", "c 1 1"], ["p 0 b:4 c:1", "q 0 a:4 b:1"], "0 p 0 q"), """
            0 come 0 b
            0 come 1 a
            0 begin 1 a
            0 begin 0 b
            4 end 0 b
            4 end 1 a
            4 move 0 c
            4 move 1 b
            4 begin 1 b
            4 begin 0 c
            5 end 0 c
            5 end 1 b
            5 leave 0 c
            5 leave 1 b
        """)

    def test_a_move_makes_room_for_another_one_in_a_later_round(self):
        self.check(simple(["a 1 1", "b 1 1", "c 1 1"], ["p 0 a:4 b:1", "q 0 b:4 c:1"], "0 p 0 q"), """
            0 come 0 a
            0 come 1 b
            0 begin 0 a
            0 begin 1 b
            4 end 0 a
            4 end 1 b
            4 move 1 c
            4 begin 1 c
            4 move 0 b
            4 begin 0 b
            5 end 0 b
            5 end 1 c
            5 leave 0 b
            5 leave 1 c
        """)

    def test_as_many_rounds_as_it_takes(self):
        made = simple(
            ["a 1 1", "b 1 1", "c 1 1", "d 1 1"],
            ["p 0 a:4 b:9", "q 0 b:4 c:9", "r 0 c:4 d:9", "s 0 d:4"],
            "0 p 0 q 0 r 0 s 4 p",
        )
        self.assertEqual([event for event in event_run(made) if event[0] == 4], events_of("""
            4 end 0 a
            4 end 1 b
            4 end 2 c
            4 end 3 d
            4 leave 3 d
            4 move 2 d
            4 begin 2 d
            4 move 1 c
            4 begin 1 c
            4 move 0 b
            4 begin 0 b
            4 come 4 a
            4 begin 4 a
        """))

    def test_what_leaves_makes_room_for_one_that_has_been_ready_for_longer(self):
        made = simple(["a 1 1", "b 1 1"], ["p 0 a:1 b:3", "q 0 b:5"], "0 p 0 q")
        self.assertEqual([event for event in event_run(made) if event[0] == 5], events_of("""
            5 end 1 b
            5 leave 1 b
            5 move 0 b
            5 begin 0 b
        """))

    def test_who_became_ready_earlier_moves_first(self):
        made = simple(["a 2 -", "b 1 1"], ["p 0 a:5 b:7", "q 0 a:3 b:7", "r 0 b:8"], "0 p 0 q 0 r")
        self.check(made, """
            0 come 0 a
            0 come 1 a
            0 come 2 b
            0 begin 0 a
            0 begin 1 a
            0 begin 2 b
            3 end 1 a
            3 block 1 a
            5 end 0 a
            5 block 0 a
            8 end 2 b
            8 leave 2 b
            8 move 1 b
            8 begin 1 b
            15 end 1 b
            15 leave 1 b
            15 move 0 b
            15 begin 0 b
            22 end 0 b
            22 leave 0 b
        """)

    def test_of_those_ready_since_one_time_the_least_one_moves_first(self):
        made = simple(["a 2 -", "b 1 1", "c 1 1"], ["p 0 a:5 c:1", "q 0 b:5 c:1", "r 0 c:8"], "0 r 0 q 0 p 0 p")
        moves = [event for event in event_run(made) if event[1] == "move"]
        self.assertEqual(moves, events_of("8 move 1 c\n9 move 2 c\n10 move 3 c"))

    def test_moves_of_one_round_come_ahead_of_its_begins(self):
        made = simple(["a 1 -", "b 1 -"], ["p 0 a:2 b:9", "q 0 b:2 a:9"], "0 p 0 q 1 p 1 q")
        self.assertEqual([event for event in event_run(made) if event[0] == 2], events_of("""
            2 end 0 a
            2 end 1 b
            2 move 0 b
            2 move 1 a
            2 begin 2 a
            2 begin 3 b
        """))

    def test_stations_begin_in_the_order_of_their_names(self):
        stations = ["b 1 -", "aa 1 -", "a1 1 -", "a 1 -"]
        made = simple(stations, ["p 0 b:1", "q 0 aa:1", "r 0 a1:1", "s 0 a:1"], "0 p 0 q 0 r 0 s")
        begins = [name for _, word, _, name in event_run(made) if word == "begin"]
        self.assertEqual(begins, ["a", "a1", "aa", "b"])

    def test_a_station_begins_as_many_as_it_can_ahead_of_the_next_one(self):
        made = simple(["a 2 -", "b 2 -"], ["p 0 b:1", "q 0 a:1"], "0 p 0 q 0 p 0 q 0 q")
        begins = [(job, name) for time, word, job, name in event_run(made) if word == "begin" and time == 0]
        self.assertEqual(begins, [(1, "a"), (3, "a"), (0, "b"), (2, "b")])


class SameStationTest(TraceTest):
    def test_where_the_room_is_full_of_the_job_itself(self):
        self.check(simple(["a 1 1"], ["x 0 a:3 a:4"], "0 x 9 x"), """
            0 come 0 a
            0 begin 0 a
            3 end 0 a
            3 block 0 a
            9 lost 1 a
        """)

    def test_where_the_room_is_full_of_others_too(self):
        self.check(simple(["a 2 2"], ["x 0 a:3 a:4", "y 0 a:5"], "0 x 0 y"), """
            0 come 0 a
            0 come 1 a
            0 begin 0 a
            0 begin 1 a
            3 end 0 a
            3 block 0 a
            5 end 1 a
            5 leave 1 a
            5 move 0 a
            5 begin 0 a
            9 end 0 a
            9 leave 0 a
        """)

    def test_where_it_is_not_full(self):
        for room in ("2", "3", "-"):
            self.check(simple([f"a 1 {room}"], ["x 0 a:3 a:4"], "0 x"), """
                0 come 0 a
                0 begin 0 a
                3 end 0 a
                3 move 0 a
                3 begin 0 a
                7 end 0 a
                7 leave 0 a
            """)

    def test_it_waits_behind_who_waits_already(self):
        self.check(simple(["a 1 3"], ["x 0 a:3 a:4", "y 0 a:2"], "0 x 1 y"), """
            0 come 0 a
            0 begin 0 a
            1 come 1 a
            3 end 0 a
            3 move 0 a
            3 begin 1 a
            5 end 1 a
            5 leave 1 a
            5 begin 0 a
            9 end 0 a
            9 leave 0 a
        """)

    def test_it_is_the_last_one_that_came_to_wait(self):
        self.check(simple(["a 1 3 last"], ["x 0 a:3 a:4", "y 0 a:2"], "0 x 1 y"), """
            0 come 0 a
            0 begin 0 a
            1 come 1 a
            3 end 0 a
            3 move 0 a
            3 begin 0 a
            7 end 0 a
            7 leave 0 a
            7 begin 1 a
            9 end 1 a
            9 leave 1 a
        """)


class ServersTest(TraceTest):
    def test_as_many_as_there_are_servers_are_served(self):
        self.check(simple(["a 2 -"], ["x 0 a:3", "y 0 a:4"], "0 y 0 x 0 x 2 x"), """
            0 come 0 a
            0 come 1 a
            0 come 2 a
            0 begin 0 a
            0 begin 1 a
            2 come 3 a
            3 end 1 a
            3 leave 1 a
            3 begin 2 a
            4 end 0 a
            4 leave 0 a
            4 begin 3 a
            6 end 2 a
            6 leave 2 a
            7 end 3 a
            7 leave 3 a
        """)

    def test_each_number_of_servers(self):
        for servers in (1, 2, 3, 4):
            made = simple([f"a {servers} -"], ["x 0 a:3"], "0 x " * 6)
            begins = [time for time, word, _, _ in event_run(made) if word == "begin"]
            self.assertEqual(begins, [3 * (job // servers) for job in range(6)])

    def test_ready_jobs_hold_servers(self):
        self.check(simple(["a 2 -", "b 1 1"], ["p 0 a:1 b:2", "q 0 a:2", "r 0 b:6"], "0 r 0 p 0 q 0 q 0 q"), """
            0 come 0 b
            0 come 1 a
            0 come 2 a
            0 come 3 a
            0 come 4 a
            0 begin 1 a
            0 begin 2 a
            0 begin 0 b
            1 end 1 a
            1 block 1 a
            2 end 2 a
            2 leave 2 a
            2 begin 3 a
            4 end 3 a
            4 leave 3 a
            4 begin 4 a
            6 end 0 b
            6 end 4 a
            6 leave 0 b
            6 leave 4 a
            6 move 1 b
            6 begin 1 b
            8 end 1 b
            8 leave 1 b
        """)


class PauseTest(TraceTest):
    def test_a_pause_keeps_services_from_beginning_until_it_ends(self):
        self.check(simple(["a 2 -"], ["x 0 a:3"], "2 x 4 x", [("a", 2, 5)]), """
            2 come 0 a
            4 come 1 a
            5 begin 0 a
            5 begin 1 a
            8 end 0 a
            8 end 1 a
            8 leave 0 a
            8 leave 1 a
        """)

    def test_ahead_of_a_pause_and_behind_it(self):
        for time, begin in ((0, 0), (1, 1), (2, 5), (3, 5), (4, 5), (5, 5), (6, 6)):
            with self.subTest(time):
                made = simple(["a 1 -"], ["x 0 a:3"], f"{time} x", [("a", 2, 5)])
                begins = [event for event in event_run(made) if event[1] == "begin"]
                self.assertEqual(begins, [(begin, "begin", 0, "a")])

    def test_a_pause_does_not_keep_services_from_ending(self):
        self.check(simple(["a 1 -", "b 1 -"], ["x 0 a:3 b:1"], "0 x 0 x", [("a", 1, 6)]), """
            0 come 0 a
            0 come 1 a
            0 begin 0 a
            3 end 0 a
            3 move 0 b
            3 begin 0 b
            4 end 0 b
            4 leave 0 b
            6 begin 1 a
            9 end 1 a
            9 move 1 b
            9 begin 1 b
            10 end 1 b
            10 leave 1 b
        """)

    def test_jobs_come_and_move_to_a_paused_station(self):
        self.check(simple(["a 1 -", "b 1 2"], ["p 0 a:1 b:2", "q 0 b:1"], "0 p 1 q 1 q", [("b", 0, 7)]), """
            0 come 0 a
            0 begin 0 a
            1 end 0 a
            1 move 0 b
            1 come 1 b
            1 lost 2 b
            7 begin 0 b
            9 end 0 b
            9 leave 0 b
            9 begin 1 b
            10 end 1 b
            10 leave 1 b
        """)

    def test_a_pause_is_about_its_own_station(self):
        made = simple(["a 1 -", "b 1 -"], ["p 0 a:2", "q 0 b:2"], "0 p 0 q", [("a", 0, 3)])
        begins = [event for event in event_run(made) if event[1] == "begin"]
        self.assertEqual(begins, events_of("0 begin 1 b\n3 begin 0 a"))

    def test_several_pauses_of_one_station(self):
        pauses = [("a", 6, 8), ("a", 0, 2), ("a", 3, 5)]
        made = simple(["a 1 -"], ["x 0 a:1"], "0 x 0 x 0 x 0 x", pauses)
        self.assertEqual([time for time, word, _, _ in event_run(made) if word == "begin"], [2, 5, 8, 9])

    def test_a_service_begins_at_the_end_of_a_pause_ahead_of_a_job_that_comes(self):
        made = simple(["a 1 2 last"], ["x 0 a:3"], "0 x 4 x 4 x", [("a", 0, 4)])
        self.assertEqual(event_run(made)[1:4], events_of("4 begin 0 a\n4 come 1 a\n4 lost 2 a"))

    def test_a_pause_of_a_station_that_nobody_comes_to(self):
        self.assertEqual(event_run(simple(["a 1 -"], ["x 0 a:3"], "", [("a", 0, 4)])), [])
        made = simple(["a 1 -", "b 1 1"], ["x 0 a:3"], "1 x", [("b", 0, 9), ("b", 20, 30)])
        self.assertEqual(event_run(made), events_of("1 come 0 a\n1 begin 0 a\n4 end 0 a\n4 leave 0 a"))


class DisciplineTest(TraceTest):
    KINDS = ["h 9 a:2", "l 3 a:2", "w 0 a:2 a:2"]

    def begun(self, discipline, jobs):
        """The jobs in the order in which their services begin at the only server."""
        made = simple([f"a 1 - {discipline}"], self.KINDS, jobs)
        self.assertEqual(event_run(made), slow_trace(made))
        return [job for _, word, job, _ in event_run(made) if word == "begin"]

    def test_first(self):
        self.assertEqual(self.begun("first", "0 l 0 l 1 h 1 l 3 h"), [0, 1, 2, 3, 4])

    def test_last(self):
        self.assertEqual(self.begun("last", "0 l 0 l 1 h 1 l 3 h"), [1, 3, 4, 2, 0])

    def test_priority(self):
        self.assertEqual(self.begun("priority", "0 l 0 l 1 h 1 l 3 h"), [0, 2, 4, 1, 3])

    def test_priorities_that_are_neither_the_highest_nor_the_least(self):
        self.assertEqual(self.begun("priority", "0 h 0 l 0 w 0 l 0 h"), [0, 4, 1, 3, 2, 2])

    def test_jobs_of_one_priority_in_the_order_in_which_they_came_to_wait(self):
        self.assertEqual(self.begun("priority", "0 h 0 h 0 h 1 h"), [0, 1, 2, 3])
        # Job 0 comes to wait for the second time behind jobs 1 and 2.
        self.assertEqual(self.begun("priority", "0 w 1 w 1 w"), [0, 1, 2, 0, 1, 2])
        self.assertEqual(self.begun("first", "0 w 1 w 1 w"), [0, 1, 2, 0, 1, 2])
        self.assertEqual(self.begun("last", "0 w 1 w 1 w"), [0, 0, 2, 2, 1, 1])

    def test_jobs_of_one_priority_and_of_several_kinds(self):
        made = simple(["a 1 - priority"], ["p 5 a:1", "q 5 a:1", "r 4 a:1"], "0 r 0 q 0 p 0 q 0 r 0 p")
        begun = [job for _, word, job, _ in event_run(made) if word == "begin"]
        self.assertEqual(begun, [1, 2, 3, 5, 0, 4])

    def test_who_is_served_is_not_put_off(self):
        self.assertEqual(self.begun("priority", "0 l 1 h"), [0, 1])

    def test_each_station_has_its_own(self):
        stations = ["a 1 - last", "b 1 - priority", "c 1 - first"]
        kinds = ["p 0 a:1", "q 0 b:1", "r 1 b:1", "s 0 c:1", "t 1 c:1"]
        made = simple(stations, kinds, "0 p 0 p 0 q 0 r 0 s 0 t")
        begun = [(job, name) for time, word, job, name in event_run(made) if word == "begin" and time == 0]
        self.assertEqual(begun, [(1, "a"), (3, "b"), (4, "c")])


class EndOfTraceTest(TraceTest):
    def test_a_model_without_jobs(self):
        for pauses in ((), [("a", 0, 5), ("a", 9, 10)]):
            made = simple(["a 1 1"], ["x 0 a:1"], "", pauses)
            self.assertEqual(event_run(made), [])
            self.assertEqual(stepped_run(made, 1), [])

    def test_a_model_that_gets_stuck(self):
        self.check(simple(["a 1 1", "b 1 1"], ["p 0 a:2 b:1", "q 0 b:3 a:1"], "0 p 0 q 8 p"), """
            0 come 0 a
            0 come 1 b
            0 begin 0 a
            0 begin 1 b
            2 end 0 a
            2 block 0 a
            3 end 1 b
            3 block 1 b
            8 lost 2 a
        """)

    def test_the_greatest_times(self):
        made = simple(["a 1 -"], ["x 0 a:100 a:100"], "10000 x", [("a", 9000, 10000)])
        self.check(made, """
            10000 come 0 a
            10000 begin 0 a
            10100 end 0 a
            10100 move 0 a
            10100 begin 0 a
            10200 end 0 a
            10200 leave 0 a
        """)


class ChanceTest(unittest.TestCase):
    def test_the_traces_of_many_models(self):
        words = {}
        for number in range(400):
            with self.subTest(number):
                made = some_model(number)
                expected = slow_trace(made)
                self.assertEqual(event_run(made), expected)
                for _, word, _, _ in expected:
                    words[word] = words.get(word, 0) + 1
        self.assertEqual(sorted(words), ["begin", "block", "come", "end", "leave", "lost", "move"])
        self.assertGreater(min(words.values()), 100)

    def test_the_traces_of_full_models(self):
        for number in range(1000, 1030):
            with self.subTest(number):
                made = some_model(number, longest=30, latest=60, most=40)
                self.assertEqual(event_run(made), slow_trace(made))

    def test_each_time_of_many_models(self):
        for number in range(120):
            made = some_model(number)
            trace = slow_trace(made)
            state = first_state(made)
            for time in range(last_time(made) + 2):
                with self.subTest(number, time=time):
                    events, behind = happen(made, state)
                    self.assertEqual(events, [event for event in trace if event[0] == time])
                    self.assertEqual(behind, told_state(made, trace, time + 1))
                    state = behind


# Two stations, the first one with two servers; jobs wait, are served and are ready at once, and one is lost.
BUSY = simple(
    ["a 2 3 last", "b 1 1"],
    ["p 0 a:3 b:9", "q 5 a:7 b:1", "r 0 b:4"],
    "0 r 0 p 1 q 2 p 2 q 4 p 30 r",
    [("b", 4, 6)],
)


class FirstStateTest(unittest.TestCase):
    def test_without_jobs(self):
        self.assertEqual(first_state(simple(["a 1 1"], ["x 0 a:1"], "")), (0, ((),), ((),), (), ()))
        made = simple(["a 1 1", "b 2 -", "c 1 1"], ["x 0 a:1"], "", [("a", 0, 3)])
        self.assertEqual(first_state(made), (0, ((), (), ()), ((), (), ()), (), ()))

    def test_with_jobs(self):
        self.assertEqual(first_state(simple(["a 1 1"], ["x 0 a:1"], "0 x")), (0, ((),), ((),), (), (-1,)))
        self.assertEqual(first_state(BUSY), (0, ((), ()), ((), ()), (), (-1,) * 7))


class HappenTest(unittest.TestCase):
    def test_time_after_time(self):
        # For each time its events, and the parts of the state behind them.
        rows = (
            ("0 come 0 b\n0 come 1 a\n0 begin 1 a\n0 begin 0 b",
             ((), ()), (((3, 1),), ((4, 0),)), (), (0, 0, -1, -1, -1, -1, -1)),
            ("1 come 2 a\n1 begin 2 a",
             ((), ()), (((3, 1), (8, 2)), ((4, 0),)), (), (0, 0, 0, -1, -1, -1, -1)),
            ("2 come 3 a\n2 lost 4 a",
             ((3,), ()), (((3, 1), (8, 2)), ((4, 0),)), (), (0, 0, 0, 0, -3, -1, -1)),
            ("3 end 1 a\n3 block 1 a",
             ((3,), ()), (((8, 2),), ((4, 0),)), ((3, 1),), (0, 0, 0, 0, -3, -1, -1)),
            ("4 end 0 b\n4 leave 0 b\n4 move 1 b\n4 begin 3 a\n4 come 5 a",
             ((5,), (1,)), (((7, 3), (8, 2)), ()), (), (-2, 1, 0, 0, -3, 0, -1)),
            ("", ((5,), (1,)), (((7, 3), (8, 2)), ()), (), (-2, 1, 0, 0, -3, 0, -1)),
            ("6 begin 1 b", ((5,), ()), (((7, 3), (8, 2)), ((15, 1),)), (), (-2, 1, 0, 0, -3, 0, -1)),
            ("7 end 3 a\n7 block 3 a",
             ((5,), ()), (((8, 2),), ((15, 1),)), ((7, 3),), (-2, 1, 0, 0, -3, 0, -1)),
            ("8 end 2 a\n8 block 2 a",
             ((5,), ()), ((), ((15, 1),)), ((7, 3), (8, 2)), (-2, 1, 0, 0, -3, 0, -1)),
            ("", ((5,), ()), ((), ((15, 1),)), ((7, 3), (8, 2)), (-2, 1, 0, 0, -3, 0, -1)),
        )
        state = first_state(BUSY)
        for time, (text, *parts) in enumerate(rows):
            with self.subTest(time):
                events, state = happen(BUSY, state)
                self.assertEqual(events, events_of(text))
                self.assertEqual(state, (time + 1, *parts))

    def test_a_time_at_which_nothing_happens(self):
        made = simple(["a 1 1"], ["x 0 a:5"], "3 x", [("a", 20, 30)])
        nobody = (((),), ((),), ())
        for time in (0, 1, 2):
            state = (time, *nobody, (-1,))
            self.assertEqual(happen(made, state), ([], (time + 1, *nobody, (-1,))))
        served = (((),), (((8, 0),),), ())
        for time in (4, 5, 6, 7):
            self.assertEqual(happen(made, (time, *served, (0,))), ([], (time + 1, *served, (0,))))
        for time in (9, 19, 20, 29, 30, 31, 1000):
            self.assertEqual(happen(made, (time, *nobody, (-2,))), ([], (time + 1, *nobody, (-2,))))

    def test_where_all_jobs_are_gone_or_stuck(self):
        made = simple(["a 1 1"], ["x 0 a:3 a:3"], "0 x 1 x")
        stuck = (((),), ((),), ((3, 0),), (0, -3))
        self.assertEqual(state_at(made, 4), (4, *stuck))
        self.assertEqual(happen(made, (4, *stuck)), ([], (5, *stuck)))
        self.assertEqual(happen(made, (99, *stuck)), ([], (100, *stuck)))

    def test_those_who_wait_stand_in_the_order_in_which_they_came_to_wait(self):
        for discipline in ("first", "last", "priority"):
            kinds = ["p 0 a:1 b:9", "q 3 b:4", "r 9 b:9"]
            made = simple(["a 1 -", f"b 1 - {discipline}"], kinds, "0 q 1 p 1 q 2 r 3 q")
            self.assertEqual(state_at(made, 4)[1], ((), (2, 1, 3, 4)))

    def test_those_who_are_served_stand_ascending(self):
        kinds = ["p 0 a:9", "q 0 a:4", "r 0 a:3"]
        made = simple(["a 4 -"], kinds, "0 p 0 q 1 r 2 r")
        self.assertEqual(state_at(made, 3)[2], (((4, 1), (4, 2), (5, 3), (9, 0)),))
        made = simple(["a 4 - last"], ["p 0 a:9"], "0 p 0 p 0 p")
        self.assertEqual(state_at(made, 3)[2], (((9, 0), (9, 1), (9, 2)),))

    def test_those_who_are_ready_stand_ascending(self):
        kinds = ["p 0 a:5 b:1", "q 0 a:4 b:1", "r 0 c:5 b:1", "s 0 b:90"]
        made = simple(["a 3 -", "b 1 1", "c 1 -"], kinds, "0 s 0 r 0 p 0 p 0 q")
        self.assertEqual(state_at(made, 9)[3], ((4, 4), (5, 1), (5, 2), (5, 3)))

    def test_steps(self):
        made = simple(["a 1 -", "b 1 -"], ["x 0 a:2 b:2 a:2"], "1 x 9 x")
        rows = ((1, -1), (2, 0), (3, 0), (4, 1), (5, 1), (6, 2), (7, 2), (8, -2))
        for time, step in rows:
            self.assertEqual(state_at(made, time)[4], (step, -1))

    def test_a_ready_job_has_the_index_of_the_step_that_is_done(self):
        made = simple(["a 1 1", "b 1 1"], ["p 0 a:2 b:2 b:2"], "0 p")
        self.assertEqual(state_at(made, 9), (9, ((), ()), ((), ()), ((4, 0),), (1,)))

    def test_the_kinds_of_values(self):
        events, state = happen(BUSY, state_at(BUSY, 4))
        self.assertIs(type(events), list)
        self.assertEqual({type(event) for event in events}, {tuple})
        self.assertIs(type(state), tuple)
        self.assertEqual([type(part) for part in state], [int, tuple, tuple, tuple, tuple])
        for part in state[1:3]:
            self.assertEqual({type(row) for row in part}, {tuple})
        self.assertEqual(type(state[2][0][0]), tuple)


class NextTimeTest(unittest.TestCase):
    def test_without_anything(self):
        made = simple(["a 1 1"], ["x 0 a:1"], "")
        self.assertIsNone(next_time(made, first_state(made)))

    def test_a_job_comes(self):
        made = simple(["a 1 1"], ["x 0 a:1"], "4 x 9 x")
        rows = ((0, 4), (3, 4), (4, 4), (6, 9), (9, 9))
        for time, due in rows:
            self.assertEqual(next_time(made, state_at(made, time)), due)

    def test_a_service_ends(self):
        made = simple(["a 2 2"], ["x 0 a:5", "y 0 a:3"], "0 x 1 y")
        rows = ((0, 0), (1, 1), (2, 4), (3, 4), (4, 4), (5, 5), (6, None), (7, None))
        for time, due in rows:
            with self.subTest(time):
                self.assertEqual(next_time(made, state_at(made, time)), due)

    def test_a_service_at_each_station_ends(self):
        made = simple(["a 1 1", "b 1 1"], ["x 0 a:9", "y 0 b:3"], "0 x 0 y")
        self.assertEqual(next_time(made, state_at(made, 1)), 3)
        self.assertEqual(next_time(made, state_at(made, 4)), 9)

    def test_a_pause_ends(self):
        made = simple(["a 1 1", "b 1 1"], ["x 0 a:1"], "", [("a", 3, 7), ("a", 9, 11), ("b", 2, 10)])
        rows = ((0, 7), (2, 7), (6, 7), (7, 7), (8, 10), (10, 10), (11, 11), (12, None), (99, None))
        for time, due in rows:
            with self.subTest(time):
                self.assertEqual(next_time(made, state_at(made, time)), due)

    def test_the_beginning_of_a_pause_is_not_one_of_these_times(self):
        made = simple(["a 1 1"], ["x 0 a:100"], "0 x", [("a", 3, 300)])
        self.assertEqual(next_time(made, state_at(made, 1)), 100)

    def test_the_least_of_all(self):
        for job, pause, service, due in ((8, 7, 6, 6), (7, 6, 8, 6), (6, 8, 7, 6), (6, 6, 6, 6), (9, 8, 9, 8)):
            made = simple(["a 1 1", "b 1 1"], ["x 0 a:1", f"y 0 b:{service}"], f"0 y {job} x", [("a", 2, pause)])
            self.assertEqual(next_time(made, state_at(made, 1)), due)

    def test_the_time_of_the_state_itself_counts(self):
        made = simple(["a 1 1"], ["x 0 a:5"], "0 x 20 x", [("a", 8, 9)])
        for time in (0, 5, 9, 20, 25):
            self.assertEqual(next_time(made, state_at(made, time)), time)
            behind = happen(made, state_at(made, time))[1]
            self.assertNotEqual(next_time(made, behind), time)

    def test_where_nothing_comes_any_more(self):
        made = simple(["a 1 1"], ["x 0 a:3 a:3"], "0 x 7 x", [("a", 2, 5)])
        self.assertEqual(next_time(made, state_at(made, 6)), 7)
        self.assertIsNone(next_time(made, state_at(made, 8)))
        self.assertIsNone(next_time(BUSY, state_at(BUSY, 10000)))

    def test_the_next_event_is_not_ahead_of_it(self):
        for number in range(80):
            made = some_model(number)
            trace = slow_trace(made)
            for time in range(0, last_time(made) + 2, 3):
                with self.subTest(number, time=time):
                    due = next_time(made, told_state(made, trace, time))
                    later = [event[0] for event in trace if event[0] >= time]
                    if later:
                        self.assertLessEqual(time, due)
                        self.assertLessEqual(due, later[0])


class NothingIsModifiedTest(unittest.TestCase):
    def test_the_arguments_stay(self):
        before_model = copy.deepcopy(BUSY)
        for time in range(0, 40):
            state = state_at(BUSY, time)
            before = copy.deepcopy(state)
            happen(BUSY, state)
            next_time(BUSY, state)
            first_state(BUSY)
            self.assertEqual(state, before)
        self.assertEqual(BUSY, before_model)

    def test_lists_are_new(self):
        state = state_at(BUSY, 4)
        events, behind = happen(BUSY, state)
        expected = list(events)
        events.clear()
        self.assertEqual(happen(BUSY, state), (expected, behind))
        empty, _ = happen(BUSY, state_at(BUSY, 5))
        empty.append("nothing")
        self.assertEqual(happen(BUSY, state_at(BUSY, 5))[0], [])


class InterfaceTest(unittest.TestCase):
    def test_names_and_arguments(self):
        arguments = {
            "first_state": ["some_model"],
            "happen": ["some_model", "state"],
            "next_time": ["some_model", "state"],
        }
        for name, expected in arguments.items():
            with self.subTest(name):
                function = getattr(states, name)
                self.assertEqual(list(inspect.signature(function).parameters), expected)
                self.assertEqual(function.__module__, states.__name__)

    def test_a_pair_is_a_tuple(self):
        self.assertIs(type(happen(BUSY, first_state(BUSY))), tuple)


if __name__ == "__main__":
    unittest.main()
