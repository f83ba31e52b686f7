"""neverlate.traces: points 100 and 101."""

import unittest
from random import Random

from neverlate.edf import run
from neverlate.errors import InvalidNotation, InvalidReleases, InvalidSchedule
from neverlate.schedules import late_by
from neverlate.tasks import System
from neverlate.traces import format_trace, parse_trace, replay
from samples import lone, random_releases, random_system

SIXTY = 10 ** 59 + 7
SIXTY_ONE = 10 ** 60


class Traces(unittest.TestCase):
    def breaks(self, line, text, call=parse_trace):
        with self.subTest(text), self.assertRaises(InvalidNotation) as caught:
            call(text)
        self.assertEqual(caught.exception.line, line)


class Point100(unittest.TestCase):
    def test_example(self):
        self.assertEqual(format_trace([[(0, 0, 2), (1, 0, 1)], []]), "0 0:0:2 1:0:1\n1")

    def test_a_schedule_without_slots(self):
        self.assertEqual(format_trace([]), "")

    def test_empty_slots(self):
        self.assertEqual(format_trace([[]]), "0")
        self.assertEqual(format_trace([[], [], []]), "0\n1\n2")
        self.assertEqual(format_trace([[], [(3, 14, 15)], []]), "0\n1 3:14:15\n2")

    def test_the_order_of_the_tuples(self):
        self.assertEqual(format_trace([[(1, 0, 1), (0, 5, 0), (0, 2, 9)]]), "0 1:0:1 0:5:0 0:2:9")

    def test_numbers_of_several_digits(self):
        self.assertEqual(format_trace([[(10, 200, SIXTY)]]), f"0 10:200:{SIXTY}")
        lines = format_trace([[]] * 12).split("\n")
        self.assertEqual(lines, [str(number) for number in range(12)])

    def test_tuples_of_slots(self):
        self.assertEqual(format_trace(([(0, 0, 1)], ())), "0 0:0:1\n1")


class Point101(Traces):
    def test_parsing(self):
        self.assertEqual(parse_trace("0 0:0:2 1:0:1\n1"), [[(0, 0, 2), (1, 0, 1)], []])
        self.assertEqual(parse_trace(""), [])
        self.assertEqual(parse_trace("0"), [[]])
        self.assertEqual(parse_trace("0\n1 3:14:15\n2"), [[], [(3, 14, 15)], []])

    def test_example(self):
        self.breaks(2, "0 0:0:2\n2")

    def test_round_trip(self):
        random = Random(101)
        for _ in range(100):
            slots = [
                [tuple(random.choice((0, 1, 12, SIXTY)) for _ in range(3)) for _ in range(random.randint(0, 3))]
                for _ in range(random.randint(0, 13))
            ]
            self.assertEqual(parse_trace(format_trace(slots)), slots)

    def test_whether_the_schedule_is_valid_is_not_checked(self):
        self.assertEqual(parse_trace("0 7:8:0 7:8:0"), [[(7, 8, 0), (7, 8, 0)]])

    def test_numbers_of_one_of_sixty_and_of_sixty_one_digits(self):
        for place in range(3):
            for number in (0, 9, SIXTY):
                part = [1, 1, 1]
                part[place] = number
                self.assertEqual(parse_trace("0 %d:%d:%d" % tuple(part)), [[tuple(part)]])
            part[place] = SIXTY_ONE
            self.breaks(2, "0\n1 %d:%d:%d" % tuple(part))
            words = ["1", "1", "1"]
            words[place] = "9" * 5000
            self.breaks(2, "0\n1 " + ":".join(words))

    def test_leading_zeros_and_signs(self):
        for word in ("00", "01", "+1", "-1", "-0", "1_0", "", " ", "x", "1.", "1e1", "\u0663", "\u00b2"):
            for place in range(3):
                part = ["1", "1", "1"]
                part[place] = word
                self.breaks(1, "0 " + ":".join(part))

    def test_spaces(self):
        for text in ("0  0:0:1", "0 0:0:1 ", " 0 0:0:1", "0 0:0:1  0:1:1", "0 ", " 0", " ", "0\t0:0:1", "0 0:0:1\t"):
            self.breaks(1, text)

    def test_colons(self):
        for part in ("0:1", "0", "0:0:1:", ":0:0:1", "0:0:1:1", "0::1", ":", "::", "0:0:", "0:0 1"):
            self.breaks(1, "0 " + part)

    def test_slot_numbers(self):
        self.breaks(1, "1")
        self.breaks(1, "00")
        self.breaks(1, "+0")
        self.breaks(1, "0:0:1")
        self.breaks(2, "0\n0")
        self.breaks(2, "0\n2\n2")
        self.breaks(3, "0\n1\n1")
        self.breaks(2, "0\n01")
        self.breaks(11, "\n".join(str(number) for number in range(10)) + "\n010")
        self.breaks(2, "0\n" + "1" * 5000)

    def test_empty_lines(self):
        self.breaks(1, "\n")
        self.breaks(1, "\n0")
        self.breaks(2, "0\n\n1")
        self.breaks(2, "0\n\n2")
        self.breaks(2, "0\n")
        self.breaks(3, "0\n1 0:0:1\n")
        self.breaks(2, "0\n\n")

    def test_other_separators_of_lines(self):
        self.breaks(1, "0\r\n1")
        self.breaks(1, "0\r1")
        self.breaks(1, "0\x0b1")

    def test_the_first_line_that_is_not_the_line_of_its_slot(self):
        self.breaks(2, "0\nx\ny\n\n")
        self.breaks(1, "x\n0\n\n")
        self.breaks(3, "0 0:0:1\n1\n2 0:0\n4")

    def test_new_lists(self):
        slots = parse_trace("0\n1")
        slots[0].append((0, 0, 1))
        self.assertEqual(slots[1], [])
        self.assertEqual(parse_trace("0\n1"), [[], []])


class Replay(Traces):
    def setUp(self):
        self.system = System([lone("t", 2, 3, 4), lone("u", 1, 4)], table=[1])
        self.releases = [[(0, "k")], [(0, "k")]]

    def test_late_and_not_late(self):
        self.assertIsNone(replay(self.system, self.releases, "0 0:0:1\n1 0:0:1\n2 1:0:1"))
        self.assertEqual(replay(self.system, self.releases, "0 1:0:1\n1 0:0:1\n2"), 3)
        self.assertEqual(replay(self.system, self.releases, "0 0:0:1\n1 0:0:1\n2"), 4)
        self.assertEqual(replay(self.system, self.releases, ""), 3)
        self.assertIsNone(replay(self.system, [[], []], ""))

    def test_no_trace_comes_first(self):
        for releases in (self.releases, [[(0, "x")], []]):
            self.breaks(2, "0 7:7:7\n2", call=lambda text: replay(self.system, releases, text))

    def test_releases_that_are_not_legal_come_next(self):
        with self.assertRaises(InvalidReleases) as caught:
            replay(self.system, [[(0, "k"), (3, "k")], []], "0 7:7:7")
        self.assertEqual((caught.exception.task_number, caught.exception.release_number), (0, 1))

    def test_a_schedule_that_breaks_a_rule(self):
        for slot, text in ((0, "0 7:7:7"), (0, "0 0:0:2"), (1, "0\n1 0:0:1 0:0:1"), (2, "0 1:0:1\n1\n2 1:0:1")):
            with self.assertRaises(InvalidSchedule) as caught:
                replay(self.system, self.releases, text)
            self.assertEqual(caught.exception.slot, slot)

    def test_the_trace_of_a_run(self):
        random = Random(102)
        seen = {}
        for _ in range(100):
            system = random_system(random, tasks=3)
            releases = [random_releases(random, task) for task in system.tasks]
            outcome = run(system, releases)
            late = replay(system, releases, format_trace(outcome.slots))
            self.assertEqual(late, outcome.late)
            self.assertEqual(late, late_by(system, releases, outcome.slots))
            seen[late is None] = True
        self.assertEqual(len(seen), 2)


if __name__ == "__main__":
    unittest.main()
