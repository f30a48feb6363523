import copy
import inspect
import unittest

from eventsteps import modeltext
from eventsteps.errors import LineError, ModelError
from eventsteps.modeltext import format_model, read_model
from eventsteps.models import model
from reference import some_model

# A text without a fault: lines 1 and 2 are stations, 3 and 4 kinds, 5 and 6 pauses, 7 and 8 jobs.
LINES = (
    "station a 1 3 first",
    "station b 2 - last",
    "kind x 0 a:3 b:5",
    "kind y 9 b:1",
    "pause a 0 5",
    "pause b 7 9",
    "job 0 x",
    "job 3 y",
)
MODEL = (
    (("a", 1, 3, "first"), ("b", 2, None, "last")),
    (("x", 0, (("a", 3), ("b", 5))), ("y", 9, (("b", 1),))),
    (("a", 0, 5), ("b", 7, 9)),
    ((0, "x"), (3, "y")),
)


def text_of(lines):
    return "".join(line + "\n" for line in lines)


def fault(text):
    """The `what` and the `line` of the fault of a text, or None."""
    try:
        read_model(text)
    except LineError as error:
        return error.what, error.line
    return None


def fault_of(lines):
    return fault(text_of(lines))


class FormatTest(unittest.TestCase):
    def test_a_text_character_by_character(self):
        self.assertEqual(
            format_model(MODEL),
            "station a 1 3 first\nstation b 2 - last\nkind x 0 a:3 b:5\nkind y 9 b:1\n"
            "pause a 0 5\npause b 7 9\njob 0 x\njob 3 y\n",
        )

    def test_a_room_of_none(self):
        made = model([("a", 1, None, "first")], [("x", 0, (("a", 1),))], [], [])
        self.assertEqual(format_model(made), "station a 1 - first\nkind x 0 a:1\n")

    def test_a_room_of_a_number(self):
        made = model([("a", 4, 40, "priority")], [("x", 0, (("a", 1),))], [], [])
        self.assertEqual(format_model(made), "station a 4 40 priority\nkind x 0 a:1\n")

    def test_a_route_of_several_steps(self):
        route = (("b", 100), ("a", 1), ("a", 20), ("b", 3), ("b", 3), ("a", 99))
        made = model([("a", 1, 1, "last"), ("b", 1, 1, "last")], [("abcdefgh", 9, route)], [], [])
        self.assertEqual(
            format_model(made),
            "station a 1 1 last\nstation b 1 1 last\nkind abcdefgh 9 b:100 a:1 a:20 b:3 b:3 a:99\n",
        )

    def test_a_model_without_pauses(self):
        made = model([("a", 1, 1, "first")], [("x", 0, (("a", 1),))], [], [(0, "x"), (10000, "x")])
        self.assertEqual(format_model(made), "station a 1 1 first\nkind x 0 a:1\njob 0 x\njob 10000 x\n")

    def test_a_model_without_jobs(self):
        made = model([("a", 1, 1, "first")], [("x", 0, (("a", 1),))], [("a", 9999, 10000), ("a", 0, 1)], [])
        self.assertEqual(
            format_model(made), "station a 1 1 first\nkind x 0 a:1\npause a 0 1\npause a 9999 10000\n"
        )

    def test_the_lines_stand_in_the_order_of_the_model(self):
        made = model(
            [("b", 1, 1, "first"), ("a", 1, 1, "first")],
            [("y", 0, (("a", 1),)), ("x", 0, (("b", 1),))],
            [("b", 0, 1), ("a", 3, 4), ("a", 0, 1)],
            [(5, "y"), (5, "x"), (0, "y")],
        )
        self.assertEqual(
            format_model(made).splitlines(),
            ["station a 1 1 first", "station b 1 1 first", "kind x 0 b:1", "kind y 0 a:1",
             "pause a 0 1", "pause a 3 4", "pause b 0 1", "job 0 y", "job 5 y", "job 5 x"],
        )


class BackTest(unittest.TestCase):
    def test_what_is_told_is_read_back(self):
        self.assertEqual(read_model(format_model(MODEL)), MODEL)
        self.assertEqual(read_model(text_of(LINES)), MODEL)
        for number in range(60):
            with self.subTest(number):
                made = some_model(number)
                text = format_model(made)
                self.assertEqual(read_model(text), made)
                self.assertEqual(format_model(read_model(text)), text)

    def test_the_largest_and_the_least_model(self):
        stations = [(f"station{number}", 4, 40, "priority") for number in range(6)]
        kinds = [(f"k{number}", 9, (("station5", 100),) * 6) for number in range(6)]
        pauses = [("station0", 1000 * number, 1000 * number + 999) for number in range(8)]
        largest = model(stations, kinds, pauses, [(10000, "k5")] * 40)
        self.assertEqual(read_model(format_model(largest)), largest)
        self.assertEqual(len(format_model(largest).splitlines()), 60)
        least = model([("a", 1, 1, "first")], [("a", 0, (("a", 1),))], [], [])
        self.assertEqual(read_model(format_model(least)), least)

    def test_without_the_last_newline(self):
        self.assertEqual(read_model(text_of(LINES)[:-1]), MODEL)
        self.assertEqual(read_model("kind x 0 a:1\nstation a 1 - last"),
                         ((("a", 1, None, "last"),), (("x", 0, (("a", 1),)),), (), ()))

    def test_lines_in_another_order(self):
        self.assertEqual(read_model(text_of(LINES[::-1])), MODEL)
        for many in range(len(LINES)):
            with self.subTest(many):
                self.assertEqual(read_model(text_of(LINES[many:] + LINES[:many])), MODEL)
        mixed = [LINES[place] for place in (6, 4, 2, 0, 7, 5, 3, 1)]
        self.assertEqual(read_model(text_of(mixed)), MODEL)

    def test_jobs_of_one_time_keep_the_order_of_their_lines(self):
        lines = ["job 5 y", "job 0 x", *LINES[:2], "job 5 x", *LINES[2:4], "job 5 y", "job 0 y"]
        in_order = ((0, "x"), (0, "y"), (5, "y"), (5, "x"), (5, "y"))
        self.assertEqual(read_model(text_of(lines))[3], in_order)

    def test_the_kinds_of_values(self):
        read = read_model(text_of(LINES))
        self.assertIs(type(read), tuple)
        for part in read:
            self.assertIs(type(part), tuple)
            self.assertEqual({type(row) for row in part}, {tuple})
        self.assertEqual([type(value) for value in read[0][0]], [str, int, int, str])
        self.assertIsNone(read[0][1][2])
        self.assertIs(type(read[1][0][2]), tuple)
        self.assertEqual([type(step) for step in read[1][0][2]], [tuple, tuple])
        self.assertEqual([type(value) for value in read[1][0][2][0]], [str, int])


class NotUnderstoodTest(unittest.TestCase):
    def check(self, line):
        """Expect a line not to be understood, at each place of a text, and whatever stands behind it."""
        for place in range(len(LINES) + 1):
            with self.subTest(line=line, place=place):
                lines = [*LINES[:place], line, *LINES[place:]]
                self.assertEqual(fault_of(lines), ("not understood", place + 1))
                self.assertEqual(fault_of(lines + ["nothing"]), ("not understood", place + 1))

    def check_understood(self, line, what=None):
        """Expect a line to be understood, ahead of all others, and the fault that it has, if any."""
        with self.subTest(line):
            self.assertEqual(fault_of([line, *LINES]), None if what is None else (what, 1))
            self.assertEqual(fault_of([line, *LINES, ""]), ("not understood", len(LINES) + 2))

    def test_an_unknown_first_word(self):
        for word in ("stations", "Station", "STATION", "statio", "", "kinds", "kin", "jobs", "pauses", "paus", "model",
                     "0", "a", "-"):
            for rest in ("a 1 3 first", "z 0 a:3", "a 0 5", "0 x"):
                self.check(f"{word} {rest}")

    def test_a_first_word_alone(self):
        for word in ("station", "kind", "pause", "job", "x", ":", "-"):
            self.check(word)

    def test_the_rest_of_another_sort_of_line(self):
        rests = {"station": "c 1 3 first", "kind": "z 0 a:3", "pause": "a 90 95", "job": "0 x"}
        for word in rests:
            for other, rest in rests.items():
                if word != other:
                    self.check(f"{word} {rest}")

    def test_empty_lines(self):
        text = text_of(LINES)
        self.assertEqual(fault("\n" + text), ("not understood", 1))
        self.assertEqual(fault(text.replace("\nkind x", "\n\nkind x")), ("not understood", 3))
        self.assertEqual(fault(text + "\n"), ("not understood", 9))
        self.assertEqual(fault(text + "\n\n"), ("not understood", 9))
        self.assertEqual(fault("\n"), ("not understood", 1))
        self.assertEqual(fault("\n\n"), ("not understood", 1))
        self.check("")

    def test_lines_of_spaces(self):
        for line in (" ", "  ", "     "):
            self.check(line)
            self.assertEqual(fault(line), ("not understood", 1))
            self.assertEqual(fault(text_of(LINES) + line), ("not understood", 9))

    def test_a_word_too_few(self):
        for line in ("station c 1 3", "station c 1 first", "station c first", "station c", "station 1 3 first",
                     "kind z 0", "kind z", "kind z a:3", "kind 0 a:3", "pause a 90", "pause 90 95", "pause a",
                     "job 0", "job x"):
            self.check(line)

    def test_a_word_too_many(self):
        for line in ("station c 1 3 first first", "station c 1 3 first 0", "station c 1 3 3 first", "pause a 90 95 99",
                     "pause a a 90 95", "job 0 x x", "job 0 0 x", "job 0 x 0", "kind z 0 0 a:3", "kind z 0 a:3 a",
                     "kind z z 0 a:3"):
            self.check(line)

    def test_spaces_side_by_side(self):
        for line in ("station c 1 3 first", "station c 1 - last", "kind z 0 a:3 b:5", "pause a 90 95", "job 0 x"):
            self.check_understood(line)
            for place, sign in enumerate(line):
                if sign == " ":
                    self.check(line[:place] + " " + line[place:])

    def test_spaces_in_front_of_a_line_and_behind_it(self):
        for line in ("station c 1 3 first", "station c 1 - last", "kind z 0 a:3 b:5", "pause a 90 95", "job 0 x"):
            for other in (" " + line, line + " ", "  " + line, line + "  ", " " + line + " "):
                self.check(other)

    def test_spaces_within_a_step(self):
        for line in ("kind z 0 a: 3", "kind z 0 a :3", "kind z 0 a : 3", "kind z 0 a:3 :5"):
            self.check(line)

    # A line of each sort, for each integer that stands in it.
    PLACES = ("station c {} 3 first", "station c 1 {} first", "kind z {} a:3", "kind z 0 a:{}", "kind z 0 a:3 b:{}",
              "pause a {} 95", "pause a 90 {}", "job {} x")

    def test_words_that_are_no_integers(self):
        for word in ("+1", "-1", "--", "+", "-0", "00", "01", "007", "00000", "00001", "100000", "123456", "999999",
                     "000001", "1234567", "", "a", "1a", "a1", "1.0", "1e1", "1_0", "0x1", "1,", "1:", "'1'", "None",
                     "/", "1/", ";"):
            for place in self.PLACES:
                self.check(place.format(word))

    def test_a_hyphen_where_no_room_stands(self):
        for place in self.PLACES:
            if place != self.PLACES[1]:
                self.check(place.format("-"))
        for line in ("station - 1 3 first", "station c 1 3 -", "kind - 0 a:3", "kind z 0 -", "kind z 0 a:3 -",
                     "kind z 0 -:3", "pause - 90 95", "job 0 -", "- c 1 3 first"):
            self.check(line)

    def test_integers_of_one_to_five_digits(self):
        rows = (
            ("station c {} 3 first", ("0", "5", "10", "123", "1000", "10000", "99999"), "wrong servers"),
            ("station c 1 {} first", ("0", "41", "100", "4000", "10000", "99999"), "wrong room"),
            ("kind z {} a:3", ("10", "100", "9999", "10000", "99999"), "wrong priority"),
            ("kind z 0 a:{}", ("0", "101", "1000", "10000", "99999"), "wrong route"),
            ("kind z 0 a:3 b:{}", ("0", "101", "1000", "10000", "99999"), "wrong route"),
            ("pause b 90 {}", ("0", "90", "89", "10001", "99999"), "wrong pause"),
            ("pause b {} 95", ("95", "96", "100", "1000", "10000", "99999"), "wrong pause"),
            ("job {} x", ("10001", "20000", "99999"), "wrong time"),
        )
        for line, words, what in rows:
            for word in words:
                self.check_understood(line.format(word), what)

    def test_integers_without_a_fault(self):
        for line in ("station c 4 4 first", "station c 1 40 first", "kind z 0 a:1", "kind z 9 a:100", "pause b 0 5",
                     "pause b 9999 10000", "pause b 10 11", "job 0 x", "job 9 x", "job 10 x", "job 10000 x",
                     "job 9999 x", "job 105 x", "job 100 x", "job 4567 x"):
            self.check_understood(line)

    # A line of each sort, for each name that stands in it.
    NAMED = ("station {} 1 3 first", "kind {} 0 a:3", "kind z 0 {}:3", "kind z 0 a:3 {}:5", "pause {} 90 95", "job 0 {}")

    def test_words_that_are_no_names(self):
        for word in ("", "A", "aB", "1", "1a", "0", "abcdefghi", "a12345678", "a-", "-a", "a_b", "_", "a.", "a,", "'a'",
                     "`", "{", "a`", "a{", "a/", "@", "a:", ":"):
            for place in self.NAMED:
                self.check(place.format(word))

    def test_names_of_one_to_eight_characters(self):
        for word in ("c", "z", "c0", "z9", "abcdefgh", "c1234567", "station", "job", "last"):
            self.check_understood(f"station {word} 1 3 first")
            self.check_understood(f"kind {word} 0 a:3")
            self.check_understood(f"kind q 0 {word}:3", "wrong route")
            self.check_understood(f"pause {word} 0 5", "unknown station")
            self.check_understood(f"job 0 {word}", "unknown kind")

    def test_an_unknown_discipline(self):
        for word in ("", "First", "FIRST", "firs", "firstt", "random", "0", "first,", "-", "lastfirst", "priorit",
                     "none", "a"):
            self.check(f"station c 1 3 {word}")
        for word in ("first", "last", "priority"):
            self.check_understood(f"station c 1 3 {word}")

    def test_a_kind_without_steps(self):
        self.check("kind z 0")
        self.check("kind z 0 ")

    def test_steps(self):
        for word in ("a", "3", "a3", "a-3", "a;3", "a::3", "a:3:", ":a:3", "a:3:5", "a:b:3", ":", "::", "a:", ":3",
                     ":3a", "3:a", "a:b", "a:03", "a:-3", "a:3b", "A:3", "a:3,b:5", ""):
            self.check(f"kind z 0 {word}")
            self.check(f"kind z 0 {word} b:5")
            self.check(f"kind z 0 b:5 {word}")
            self.check(f"kind z 0 b:5 {word} b:5")

    def test_six_steps_and_more_are_understood(self):
        for many, what in ((1, None), (6, None), (7, "wrong route"), (9, "wrong route")):
            self.check_understood("kind z 0" + " a:3" * many, what)

    def test_the_first_of_two_such_lines_is_told(self):
        for first in range(len(LINES)):
            for second in range(first + 1, len(LINES)):
                lines = list(LINES)
                lines[first] = "job 00 x"
                lines[second] = ""
                with self.subTest(first=first, second=second):
                    self.assertEqual(fault_of(lines), ("not understood", first + 1))

    def test_also_behind_lines_with_other_faults(self):
        faults = ("station a 0 0 first", "station a 9 1 last", "kind x 10 q:0", "kind x 1 a:1", "pause q 9 9",
                  "pause a 9 9", "pause a 0 5", "job 10001 x", "job 0 q")
        for line in faults:
            with self.subTest(line):
                self.assertEqual(fault_of([line, *LINES, "job 0"]), ("not understood", len(LINES) + 2))
                self.assertEqual(fault_of([*LINES, line, "job 0", line]), ("not understood", len(LINES) + 2))
        self.assertEqual(fault_of([*faults, ""]), ("not understood", len(faults) + 1))
        self.assertEqual(fault_of(["job 0 x"] * 50 + ["job x"]), ("not understood", 51))
        self.assertEqual(fault_of(["job"]), ("not understood", 1))

    def test_without_the_last_newline_too(self):
        self.assertEqual(fault(text_of(LINES) + "job"), ("not understood", 9))
        self.assertEqual(fault("x"), ("not understood", 1))


class ModelFaultTest(unittest.TestCase):
    def check(self, line, what):
        """Expect the fault of a line at each place of a text."""
        for place in range(len(LINES) + 1):
            with self.subTest(line=line, place=place):
                self.assertEqual(fault_of([*LINES[:place], line, *LINES[place:]]), (what, place + 1))

    def test_faults_of_one_line(self):
        rows = (
            ("station c 0 3 first", "wrong servers"),
            ("station c 5 9 first", "wrong servers"),
            ("station c 5 - first", "wrong servers"),
            ("station c 2 1 last", "wrong room"),
            ("station c 1 0 last", "wrong room"),
            ("station c 1 41 last", "wrong room"),
            ("kind z 10 a:3", "wrong priority"),
            ("kind z 0 c:3", "wrong route"),
            ("kind z 0 a:0", "wrong route"),
            ("kind z 0 a:101", "wrong route"),
            ("kind z 0 a:3 b:1 c:1", "wrong route"),
            ("kind z 0" + " a:1" * 7, "wrong route"),
            ("pause c 90 95", "unknown station"),
            ("pause x 90 95", "unknown station"),
            ("pause a 95 95", "wrong pause"),
            ("pause a 96 95", "wrong pause"),
            ("pause a 90 10001", "wrong pause"),
            ("job 10001 x", "wrong time"),
            ("job 99999 x", "wrong time"),
            ("job 0 z", "unknown kind"),
            ("job 0 a", "unknown kind"),
        )
        for line, what in rows:
            self.check(line, what)

    def test_faults_about_an_earlier_line(self):
        rows = (
            ("station c 1 3 first", "station c 2 - last", "named twice"),
            ("kind z 0 a:1", "kind z 1 b:1", "kind named twice"),
            ("pause a 10 12", "pause a 12 15", "pauses meet"),
            ("pause b 10 20", "pause b 13 14", "pauses meet"),
        )
        for one, other, what in rows:
            for first, second in ((one, other), (other, one)):
                for place in range(len(LINES) + 1):
                    for later in range(place, len(LINES) + 1):
                        lines = [*LINES[:place], first, *LINES[place:later], second, *LINES[later:]]
                        with self.subTest(first=first, place=place, later=later):
                            self.assertEqual(fault_of(lines), (what, later + 2))

    def test_lengths(self):
        behind = len(LINES) + 1
        self.assertEqual(fault(""), ("wrong number of stations", 1))
        self.assertEqual(fault_of(LINES[2:]), ("wrong number of stations", 7))
        self.assertEqual(fault_of(LINES[4:]), ("wrong number of stations", 5))
        self.assertEqual(fault_of(LINES[6:]), ("wrong number of stations", 3))
        self.assertEqual(fault_of(LINES[:2]), ("wrong number of kinds", 3))
        self.assertEqual(fault_of(LINES[:2] + LINES[4:6]), ("wrong number of kinds", 5))
        stations = [f"station s{number} 1 3 first" for number in range(4)]
        self.assertIsNone(fault_of([*LINES, *stations]))
        self.assertEqual(fault_of([*LINES, *stations, "station t 1 3 first"]), ("wrong number of stations", behind + 5))
        kinds = [f"kind k{number} 0 a:3" for number in range(4)]
        self.assertIsNone(fault_of([*LINES, *kinds]))
        self.assertEqual(fault_of([*LINES, *kinds, "kind l 0 a:3"]), ("wrong number of kinds", behind + 5))
        pauses = [f"pause a {number}0 {number}5" for number in range(1, 7)]
        self.assertIsNone(fault_of([*LINES, *pauses]))
        self.assertEqual(fault_of([*LINES, *pauses, "pause a 70 75"]), ("too many pauses", behind + 7))
        self.assertIsNone(fault_of([*LINES, *["job 0 x"] * 38]))
        self.assertEqual(fault_of([*LINES, *["job 0 x"] * 39]), ("too many jobs", behind + 39))
        self.assertEqual(fault_of([*["job 0 x"] * 43, *LINES]), ("too many jobs", behind + 43))

    def test_lengths_without_the_last_newline(self):
        self.assertEqual(fault(text_of(LINES[:2])[:-1]), ("wrong number of kinds", 3))
        self.assertEqual(fault("job 0 x\njob 0 x"), ("wrong number of stations", 3))

    def test_numbers_of_lines_where_lines_of_all_sorts_stand_mixed(self):
        mixed = [LINES[place] for place in (6, 4, 2, 0, 7, 5, 3, 1)]
        rows = (
            ("station b 5 - last", 8, "wrong servers"),
            ("station a 1 3 last", 8, "named twice"),
            ("station b 2 1 last", 8, "wrong room"),
            ("station a 0 3 first", 4, "wrong servers"),
            ("kind x 0 a:3 b:0", 3, "wrong route"),
            ("kind y 10 b:1", 7, "wrong priority"),
            ("kind x 9 b:1", 7, "kind named twice"),
            ("pause a 5 5", 2, "wrong pause"),
            ("pause q 7 9", 6, "unknown station"),
            ("pause a 5 9", 6, "pauses meet"),
            ("job 10001 x", 1, "wrong time"),
            ("job 3 q", 5, "unknown kind"),
        )
        for line, number, what in rows:
            with self.subTest(line):
                lines = list(mixed)
                lines[number - 1] = line
                self.assertEqual(fault_of(lines), (what, number))

    def test_the_first_fault_is_that_of_the_lists_and_not_of_the_lines(self):
        lines = ["job 0 q", "pause q 0 5", "kind x 10 q:0", "station a 0 3 first", "station b 1 1 first"]
        good = {3: "station a 1 3 first", 2: "kind x 0 a:1", 1: "pause a 0 5", 0: "job 0 x"}
        expected = [("wrong servers", 4), ("wrong priority", 3), ("unknown station", 2), ("unknown kind", 1), None]
        for (place, line), found in zip(good.items(), expected):
            self.assertEqual(fault_of(lines), found)
            lines[place] = line
        self.assertEqual(fault_of(lines), expected[4])

    def test_a_fault_of_a_length_ahead_of_those_of_later_lists(self):
        many = ["job 0 q", *[f"station s{number} 1 1 first" for number in range(7)], "kind x 10 s0:1"]
        self.assertEqual(fault_of(many), ("wrong number of stations", 10))
        self.assertEqual(fault_of(many[:1] + many[2:]), ("wrong priority", 8))

    def test_a_fault_is_no_model_error(self):
        with self.assertRaises(LineError) as caught:
            read_model("")
        self.assertNotIsInstance(caught.exception, ModelError)


class NothingIsModifiedTest(unittest.TestCase):
    def test_the_model_stays(self):
        before = copy.deepcopy(MODEL)
        format_model(MODEL)
        self.assertEqual(MODEL, before)

    def test_later_answers_are_the_same(self):
        for _ in range(2):
            self.assertEqual(read_model(text_of(LINES)), MODEL)
            self.assertEqual(fault_of(LINES[:1]), ("wrong number of kinds", 2))
            self.assertEqual(fault("\n"), ("not understood", 1))
            self.assertEqual(format_model(MODEL), text_of(LINES))


class InterfaceTest(unittest.TestCase):
    def test_names_and_arguments(self):
        for name, expected in {"format_model": ["some_model"], "read_model": ["text"]}.items():
            with self.subTest(name):
                function = getattr(modeltext, name)
                self.assertEqual(list(inspect.signature(function).parameters), expected)
                self.assertEqual(function.__module__, modeltext.__name__)


if __name__ == "__main__":
    unittest.main()
