"""neverlate.certificates: points 113 to 118."""

import unittest
from random import Random

from neverlate.certificates import certificate, check_certificate
from neverlate.circuits import share
from neverlate.errors import InvalidCertificate, Undecided
from neverlate.horizons import decisive_horizon
from neverlate.misses import Miss, check_miss, first_miss, first_overfull
from neverlate.rounds import check_rounds, rounds
from neverlate.tasks import System, Task
from neverlate.weights import weights
from samples import engine_circle, lone, random_releases, random_system

SIXTY = "9" * 60
SIXTY_ONE = "1" + "0" * 60
EMPTY = System([], table=[1])
# What is no number, in each place where a number stands.
NO_NUMBERS = ("", "-1", "+1", "01", "00", "1.0", "x", SIXTY_ONE, "9" * 5000, "\u0663", "\u00b2", "1\t")


def lines(*rows):
    return "\n".join(rows)


def slow_bounds(system, rows):
    """Point 117, word by word; the rows are lists [top, bottom, weights]."""
    if len(rows) != len(system.tasks):
        return False
    p, c = len(system.table), sum(system.table)
    bottoms = 1
    for task, (top, bottom, numbers) in zip(system.tasks, rows):
        if len(numbers) != len(task.kinds):
            return False
        for source, target, distance in task.ways:
            weight = task.cost(source) * bottom - distance * top
            if numbers[task.kind_number(source)] < weight + numbers[task.kind_number(target)]:
                return False
        bottoms *= bottom
    tops = extras = 0
    for task, (top, bottom, numbers) in zip(system.tasks, rows):
        extra = max(
            numbers[u] - numbers[v] + bottom * task.kinds[v][1] - top * task.kinds[v][2]
            for u in range(len(numbers)) for v in range(len(numbers))
        )
        tops += top * (bottoms // bottom)
        extras += max(0, extra) * (bottoms // bottom)
    gain = c * bottoms - tops * p
    if gain <= 0:
        return False
    loss = extras * p + c * bottoms * (p - 1)
    horizon = p - 1
    while (horizon - p + 2) * gain < loss:
        horizon += 1
        if horizon > 1000:
            return False
    return first_overfull(system, horizon=horizon) is None


def bounds_text(rows):
    return lines("never bounds", *[
        " ".join(str(number) for number in ["task", top, bottom, *numbers]) for top, bottom, numbers in rows
    ])


class Certificates(unittest.TestCase):
    def breaks(self, line, *rows, system=EMPTY):
        text = lines(*rows)
        with self.subTest(text[:200]), self.assertRaises(InvalidCertificate) as caught:
            check_certificate(system, text)
        self.assertEqual(caught.exception.line, line)

    def is_certificate(self, *rows, system=EMPTY):
        with self.subTest(lines(*rows)[:200]):
            self.assertIn(check_certificate(system, lines(*rows)), (True, False))

    def right(self, system, *rows):
        with self.subTest(lines(*rows)):
            self.assertIs(check_certificate(system, lines(*rows)), True)

    def not_right(self, system, *rows):
        with self.subTest(lines(*rows)[:200]):
            self.assertIs(check_certificate(system, lines(*rows)), False)


class Point113(Certificates):
    def test_the_forms(self):
        self.is_certificate("late 3 0")
        self.is_certificate("late 3 0", "release 0 0 b")
        self.is_certificate("late 0 0", "release 9 8 b", "release 0 0 b", "release 0 0 B-?!\t\u00e9")
        self.is_certificate("never empty")
        self.is_certificate("never rounds 1 1")
        self.is_certificate("never bounds")
        self.is_certificate("never bounds", "task 0 1 0", "task 4 2 0 0 0 0 0 0 0 0")

    def test_no_form(self):
        for text in (
            "", " ", "\n", "never", "late", "never late", "Never empty", "never  empty", " never empty",
            "never empty ", "never emptyx", "never\tempty", "never empty 0", "empty", "rounds 1 1", "bounds",
            "task 1 2 0", "release 0 0 b", "never round 1 1", "neverempty",
        ):
            self.breaks(1, text)

    def test_the_first_line_of_the_form_late(self):
        for row in ("late 3", "late 3 0 0", "late  3 0", "late 3  0", "late 3 0 ", " late 3 0", "Late 3 0"):
            self.breaks(1, row, "release 0 0 b")
        for word in NO_NUMBERS:
            self.breaks(1, f"late {word} 0")
            self.breaks(1, f"late 3 {word}")
        for word in ("0", "1", "10", SIXTY):
            self.is_certificate(f"late {word} 0")
            self.is_certificate(f"late 3 {word}")

    def test_lines_of_releases(self):
        for row in (
            "", " ", "release", "release 0", "release 0 0", "release 0 0 ", "release 0 0 b b", "release 0 0  b",
            "release  0 0 b", " release 0 0 b", "release 0 0 b ", "Release 0 0 b", "task 1 2 0", "late 3 0",
        ):
            self.breaks(2, "late 3 0", row)
            self.breaks(3, "late 3 0", "release 0 0 b", row)
        for word in NO_NUMBERS:
            self.breaks(2, "late 3 0", f"release {word} 0 b")
            self.breaks(2, "late 3 0", f"release 0 {word} b")
        for word in ("0", "1", "10", SIXTY):
            self.is_certificate("late 3 0", f"release {word} 0 b")
            self.is_certificate("late 3 0", f"release 0 {word} b")

    def test_the_first_line_of_the_form_rounds(self):
        for row in ("never rounds", "never rounds 1", "never rounds 1 1 1", "never rounds 1  1", "never rounds 1 1 "):
            self.breaks(1, row)
        for word in NO_NUMBERS:
            self.breaks(1, f"never rounds {word} 1")
            self.breaks(1, f"never rounds 1 {word}")
        for word in ("0", "1", "1000"):
            self.is_certificate(f"never rounds 1 {word}")
        for word in ("1001", "10000", SIXTY):
            self.breaks(1, f"never rounds 1 {word}")
        for word in ("0", "1001", SIXTY):
            self.is_certificate(f"never rounds {word} 1")

    def test_lines_of_tasks(self):
        for row in (
            "", " ", "task", "task 1", "task 1 2", "task 1 2 ", "task 1 2  0", "task  1 2 0", " task 1 2 0",
            "task 1 2 0 ", "Task 1 2 0", "release 0 0 b", "never bounds", "task engine 1 2 0",
        ):
            self.breaks(2, "never bounds", row)
            self.breaks(3, "never bounds", "task 1 2 0", row)
        for word in NO_NUMBERS:
            for place in range(1, 5):
                words = ["task", "1", "2", "0", "0"]
                words[place] = word
                self.breaks(2, "never bounds", " ".join(words))
        for place in range(1, 5):
            words = ["task", "1", "2", "0", "0"]
            words[place] = SIXTY
            self.is_certificate("never bounds", " ".join(words))

    def test_no_weights_and_8_and_9_weights(self):
        self.breaks(2, "never bounds", "task 1 2")
        self.is_certificate("never bounds", "task 1 2 0")
        self.is_certificate("never bounds", "task 1 2" + " 0" * 8)
        self.breaks(2, "never bounds", "task 1 2" + " 0" * 9)

    def test_a_bottom_of_0(self):
        self.breaks(2, "never bounds", "task 1 0 0")
        self.breaks(3, "never bounds", "task 1 1 0", "task 0 0 0")
        self.is_certificate("never bounds", "task 0 1 0")


class Point114(Certificates):
    def test_a_second_line_behind_a_form_of_one_line(self):
        for head in ("never empty", "never rounds 1 1"):
            for row in ("", "never empty", "task 1 2 0", "release 0 0 b"):
                self.breaks(2, head, row)
                self.breaks(2, head, row, "x")

    def test_a_newline_at_the_end(self):
        for head in ("late 3 0", "never empty", "never rounds 1 1", "never bounds"):
            self.breaks(2, head, "")
        self.breaks(3, "late 3 0", "release 0 0 b", "")
        self.breaks(3, "never bounds", "task 1 2 0", "")

    def test_an_empty_line(self):
        self.breaks(1, "", "late 3 0")
        self.breaks(2, "late 3 0", "", "release 0 0 b")
        self.breaks(2, "never bounds", "", "task 1 2 0")

    def test_other_separators_of_lines(self):
        self.breaks(1, "late 3 0\rrelease 0 0 b")
        self.breaks(1, "late 3 0\r\nrelease 0 0 b")
        # A kind is any word that is not empty.
        self.is_certificate("late 3 0", "release 0 0 b\r")

    def test_the_first_line_comes_first(self):
        self.breaks(1, "late 3", "x")
        self.breaks(1, "never rounds 1 1001", "never empty")
        self.breaks(1, "never bound", "task 1 0 0")
        self.breaks(2, "never bounds", "task 1 0 0", "x")
        self.breaks(3, "late 3 0", "release 0 0 b", "release 0 00 b", "x")

    def test_the_form_comes_before_the_system(self):
        system = System([engine_circle()], table=[0, 1])
        self.breaks(3, "late 3 0", "release 7 0 b", "release 0 0", system=system)
        self.breaks(3, "never bounds", "task 9 9 9", "x", system=system)


class Point115(Certificates):
    SYSTEM = System([engine_circle(), lone("t", 3, 2, 5)], table=[1])

    def test_right(self):
        self.right(self.SYSTEM, "late 2 0", "release 1 0 k")
        self.right(self.SYSTEM, "late 3 1", "release 1 1 k")
        # Releases before the window and behind it do no harm.
        self.right(self.SYSTEM, "late 7 5", "release 0 1 a", "release 1 0 k", "release 0 5 b", "release 1 5 k",
                   "release 0 7 a", "release 1 99 k")

    def test_not_right(self):
        self.not_right(self.SYSTEM, "late 2 0")
        self.not_right(self.SYSTEM, "late 3 0", "release 1 0 k")
        self.not_right(self.SYSTEM, "late 2 0", "release 1 1 k")
        self.not_right(self.SYSTEM, "late 0 0", "release 1 0 k")
        self.not_right(self.SYSTEM, "late 2 2", "release 1 0 k")
        self.not_right(self.SYSTEM, "late 2 3", "release 1 0 k")

    def test_releases_that_are_not_legal(self):
        self.right(self.SYSTEM, "late 7 0", "release 1 0 k", "release 1 5 k", "release 0 0 b", "release 0 2 a")
        self.not_right(self.SYSTEM, "late 7 0", "release 1 5 k", "release 1 0 k", "release 0 0 b", "release 0 2 a")
        self.not_right(self.SYSTEM, "late 7 0", "release 1 0 k", "release 1 4 k", "release 0 0 b", "release 0 2 a")

    def test_task_numbers_that_are_not_there(self):
        self.not_right(self.SYSTEM, "late 2 0", "release 1 0 k", "release 2 0 k")
        self.not_right(self.SYSTEM, "late 2 0", f"release {SIXTY} 0 k", "release 1 0 k")
        self.not_right(EMPTY, "late 2 0", "release 0 0 k")

    def test_lines_of_the_tasks_mixed(self):
        rows = ["release 0 0 b", "release 0 2 a", "release 1 0 k", "release 1 5 k"]
        self.right(self.SYSTEM, "late 7 0", *rows)
        self.right(self.SYSTEM, "late 7 0", rows[2], rows[0], rows[3], rows[1])
        self.not_right(self.SYSTEM, "late 7 0", rows[1], rows[0], rows[2], rows[3])

    def test_kinds_that_the_task_does_not_have(self):
        self.not_right(self.SYSTEM, "late 2 0", "release 1 0 k", "release 0 0 k")
        self.not_right(self.SYSTEM, "late 2 0", "release 1 0 K")
        self.not_right(self.SYSTEM, "late 2 0", "release 1 0 k", "release 0 0 B-?!")

    def test_great_numbers(self):
        top = 10 ** 60 - 1
        self.right(self.SYSTEM, f"late {top} {top - 2}", f"release 1 {top - 2} k")
        self.not_right(self.SYSTEM, f"late {top} 0", f"release 1 {top} k")

    def test_no_tasks(self):
        self.not_right(EMPTY, "late 3 0")
        self.not_right(System([], table=[0]), "late 3 0")

    def test_against_the_words(self):
        random = Random(115)
        seen = {}
        for _ in range(400):
            system = random_system(random)
            rows = [
                (number, time, kind)
                for number, task in enumerate(system.tasks) for time, kind in random_releases(random, task)
            ]
            if random.random() < 0.3:
                rows.insert(random.randint(0, len(rows)), (random.randint(0, 2), 0, random.choice(["k0", "k2"])))
            instant, start = random.randint(0, 9), random.randint(0, 3)
            releases = [[(time, kind) for number, time, kind in rows if number == task]
                        for task in range(len(system.tasks))]
            expected = all(row[0] < len(system.tasks) for row in rows)
            expected = expected and check_miss(system, Miss(instant, start, releases))
            text = lines(f"late {instant} {start}", *["release %d %d %s" % row for row in rows])
            self.assertIs(check_certificate(system, text), expected)
            seen[expected] = True
        self.assertEqual(len(seen), 2)


class Point116(Certificates):
    def test_never_empty(self):
        self.right(EMPTY, "never empty")
        self.right(System([], table=[0, 0]), "never empty")
        self.not_right(System([lone("t", 1, 1)], table=[9]), "never empty")

    def test_never_rounds(self):
        system = System([engine_circle()], table=[1])
        self.right(system, "never rounds 3 11")
        self.not_right(system, "never rounds 2 11")
        self.not_right(system, "never rounds 3 10")
        self.right(system, "never rounds 3 1000")

    def test_a_horizon_of_0_and_a_step_of_0(self):
        for system in (EMPTY, System([engine_circle()], table=[1])):
            self.not_right(system, "never rounds 1 0")
            self.not_right(system, "never rounds 0 0")
            self.not_right(system, "never rounds 0 20")
            self.not_right(system, f"never rounds {SIXTY} 20")
        self.right(EMPTY, "never rounds 1 2")
        self.not_right(EMPTY, "never rounds 1 1")

    def test_an_overfull_window_although_the_rows_come_round(self):
        system = System([lone("t", 3, 2, 4)], table=[1])
        self.assertEqual(rounds(system, horizon=20), 3)
        self.not_right(system, "never rounds 3 20")
        self.not_right(system, "never rounds 4 20")
        self.right(system.with_table([2]), "never rounds 4 20")

    def test_against_the_words(self):
        random = Random(116)
        seen = {}
        for _ in range(500):
            system = random_system(random)
            step, horizon = random.randint(0, 6), random.randint(0, 30)
            comes_round = check_rounds(system, step=step, horizon=horizon)
            has_room = first_overfull(system, horizon=horizon) is None
            text = f"never rounds {step} {horizon}"
            self.assertIs(check_certificate(system, text), comes_round and has_room)
            self.assertIs(check_certificate(system, "never empty"), not system.tasks)
            seen[comes_round, has_room] = True
        self.assertEqual(len(seen), 4)


class Point117(Certificates):
    SYSTEM = System([engine_circle()], table=[1])

    def test_the_example(self):
        self.right(self.SYSTEM, "never bounds", "task 1 2 0 2")

    def test_a_rate_that_is_not_in_lowest_terms(self):
        self.right(self.SYSTEM, "never bounds", "task 2 4 0 4")
        self.right(self.SYSTEM, "never bounds", "task 50 100 0 100")
        # The weights are those for the bottom 2.
        self.not_right(self.SYSTEM, "never bounds", "task 2 4 0 2")

    def test_a_rate_that_is_not_the_share(self):
        self.right(self.SYSTEM, "never bounds", "task 2 3 0 2")
        self.not_right(self.SYSTEM, "never bounds", "task 2 3 0 1")
        # With the rate 1 the gain is 0, with the rate 1/3 a circuit has a greater mean.
        self.not_right(self.SYSTEM, "never bounds", "task 1 1 0 0")
        self.not_right(self.SYSTEM, "never bounds", "task 1 3 9 9")
        self.right(self.SYSTEM.with_table([2]), "never bounds", "task 1 1 0 0")

    def test_a_rate_of_0(self):
        # Without circuits the rate 0 has weights: the costs behind each kind.
        system = System([Task("t", kinds=[("a", 1, 3), ("b", 2, 3)], ways=[("a", "b", 4)])], table=[1])
        self.right(system, "never bounds", "task 0 1 1 0")
        self.not_right(system, "never bounds", "task 0 1 0 0")

    def test_other_weights(self):
        # For the share, the weights along its circuit differ by just as much.
        self.right(self.SYSTEM, "never bounds", "task 1 2 7 9")
        self.not_right(self.SYSTEM, "never bounds", "task 1 2 0 1")
        self.not_right(self.SYSTEM, "never bounds", "task 1 2 0 3")
        system = System([Task("t", kinds=[("a", 1, 3), ("b", 2, 3)], ways=[("a", "b", 4)])], table=[1])
        for numbers in ("1 0", "2 0", "9 8", "9 0"):
            self.right(system, "never bounds", f"task 0 1 {numbers}")
        self.not_right(system, "never bounds", "task 0 1 8 8")

    def test_weights_too_many_and_too_few(self):
        self.not_right(self.SYSTEM, "never bounds", "task 1 2 0")
        self.not_right(self.SYSTEM, "never bounds", "task 1 2 0 2 0")

    def test_a_line_too_many_or_too_few(self):
        self.not_right(self.SYSTEM, "never bounds")
        self.not_right(self.SYSTEM, "never bounds", "task 1 2 0 2", "task 1 2 0 2")
        two = System([engine_circle(), lone("t", 1, 4, 8)], table=[1])
        self.right(two, "never bounds", "task 1 2 0 2", "task 1 8 0")
        self.not_right(two, "never bounds", "task 1 8 0", "task 1 2 0 2")
        self.not_right(two, "never bounds", "task 1 2 0 2")

    def test_no_tasks(self):
        # The gain is the sum of the capacities.
        self.right(EMPTY, "never bounds")
        self.right(System([], table=[0, 3]), "never bounds")
        self.not_right(System([], table=[0]), "never bounds")
        self.not_right(EMPTY, "never bounds", "task 0 1 0")

    def test_a_gain_of_0(self):
        system = System([lone("t", 2, 4, 4)], table=[1, 0])
        self.not_right(system, "never bounds", "task 1 2 0")
        self.right(system.with_table([1, 1]), "never bounds", "task 1 2 0")
        # The gain is 0 or below it, although the weights are a certificate.
        self.not_right(system, "never bounds", "task 3 2 0")

    def test_a_horizon_of_1000_and_one_greater(self):
        # The gain is 1 and the horizon is the extra minus 1. The extra is 1000, the cost of the first kind, plus
        # the weight of the second kind, minus that of the first one.
        system = System([Task("t", kinds=[("a", 1000, 1000), ("b", 1, 1000)])], table=[1])
        self.right(system, "never bounds", "task 0 1 0 0")
        self.right(system, "never bounds", "task 0 1 0 1")
        self.right(system, "never bounds", "task 0 1 1 2")
        self.not_right(system, "never bounds", "task 0 1 0 2")
        self.not_right(system, "never bounds", "task 0 1 5 7")

    def test_a_window_that_is_overfull(self):
        system = System([lone("t", 3, 2, 8)], table=[1])
        self.not_right(system, "never bounds", "task 3 8 0")
        self.right(system.with_table([2]), "never bounds", "task 3 8 0")

    def test_no_rate_hides_an_overfull_window(self):
        system = System([lone("t", 3, 2, 8)], table=[1])
        for top in range(20):
            for bottom in range(1, 20):
                self.not_right(system, "never bounds", f"task {top} {bottom} 0")

    def test_great_numbers(self):
        top = 10 ** 59
        self.right(self.SYSTEM, "never bounds", f"task {top} {2 * top} 0 {2 * top}")
        self.not_right(self.SYSTEM, "never bounds", f"task 1 2 0 {SIXTY}")
        self.not_right(self.SYSTEM, "never bounds", f"task {SIXTY} 1 0 0")

    def test_against_the_words(self):
        random = Random(117)
        seen = {}
        for _ in range(600):
            system = random_system(random)
            rows = []
            for task in system.tasks:
                top, bottom = share(task)
                factor = random.randint(1, 2)
                numbers = [factor * number for number in weights(task)]
                if random.random() < 0.3:
                    top += 1
                if random.random() < 0.3:
                    numbers[random.randrange(len(numbers))] += random.randint(0, 2)
                rows.append([factor * top, factor * bottom, numbers])
            if random.random() < 0.1:
                rows = rows[1:]
            found = check_certificate(system, bounds_text(rows))
            self.assertIs(found, slow_bounds(system, rows))
            if found:
                self.assertIsNone(first_overfull(system, horizon=100))
            seen[found, len(system.tasks)] = True
        self.assertEqual(len(seen), 6)


class Point118(Certificates):
    def test_examples(self):
        system = System([engine_circle()], table=[1])
        self.assertEqual(certificate(system, horizon=20), "never bounds\ntask 1 2 0 2")
        self.assertEqual(certificate(system.with_table([0, 1]), horizon=20), "late 3 0\nrelease 0 0 b")

    def test_the_form_late_task_by_task(self):
        system = System([engine_circle(), lone("t", 1, 1, 1)], table=[1])
        text = certificate(system, horizon=20)
        self.assertEqual(text, "late 2 0\nrelease 0 0 a\nrelease 1 0 k\nrelease 1 1 k")
        self.right(system, text)

    def test_the_form_late_behind_the_instant_0(self):
        system = System([engine_circle()], table=[1, 1, 0, 0, 0, 0, 0, 0])
        text = certificate(system, horizon=20)
        self.assertEqual(text, "late 4 2\nrelease 0 2 a")
        self.right(system, text)

    def test_the_form_empty(self):
        self.assertEqual(certificate(EMPTY, horizon=1), "never empty")
        self.assertEqual(certificate(System([], table=[0, 0]), horizon=1000), "never empty")

    def test_the_form_rounds_with_the_least_step(self):
        # With a full load there is no decisive horizon.
        system = System([lone("t", 2, 2, 2)], table=[1])
        self.assertIsNone(decisive_horizon(system))
        self.assertEqual(certificate(system, horizon=20), "never rounds 2 20")
        self.assertEqual(certificate(system, horizon=7), "never rounds 2 7")
        with self.assertRaises(Undecided) as caught:
            certificate(system, horizon=6)
        self.assertEqual(caught.exception.horizon, 6)

    def test_the_decisive_horizon_just_at_the_horizon(self):
        # The extra is 40 and the gain 1. A horizon below 41 has no room for the rows to come round.
        system = System([lone("t", 40, 40)], table=[1])
        self.assertEqual(decisive_horizon(system), 39)
        with self.assertRaises(Undecided):
            certificate(system, horizon=38)
        self.assertEqual(certificate(system, horizon=39), "never bounds\ntask 0 1 0")

    def test_rounds_where_the_decisive_horizon_is_behind_the_horizon(self):
        system = System([lone("t", 3, 3, 5), lone("u", 1, 4, 3)], table=[1])
        self.assertEqual(decisive_horizon(system), 17)
        for horizon in (15, 16):
            self.assertEqual(certificate(system, horizon=horizon), f"never rounds 5 {horizon}")
        for horizon in (17, 18):
            self.assertEqual(certificate(system, horizon=horizon), "never bounds\ntask 3 5 0\ntask 1 3 0")

    def test_right_in_each_form(self):
        random = Random(118)
        seen = {}
        for _ in range(500):
            system = random_system(random)
            horizon = random.randint(1, 40)
            try:
                miss = first_miss(system, horizon=horizon)
            except Undecided:
                with self.assertRaises(Undecided) as caught:
                    certificate(system, horizon=horizon)
                self.assertEqual(caught.exception.horizon, horizon)
                seen["undecided"] = True
                continue
            text = certificate(system, horizon=horizon)
            self.assertIs(check_certificate(system, text), True)
            self.assertEqual(text, self.slow_text(system, horizon, miss))
            seen[" ".join(text.split("\n")[0].split(" ")[:2]) if miss is None else "late"] = True
        self.assertEqual(set(seen), {"undecided", "late", "never empty", "never rounds", "never bounds"})

    def slow_text(self, system, horizon, miss):
        """Point 118, word by word."""
        if miss is not None:
            rows = ["release %d %d %s" % (task, *release)
                    for task, row in enumerate(miss.releases) for release in row]
            return lines(f"late {miss.instant} {miss.start}", *rows)
        if not system.tasks:
            return "never empty"
        decisive = decisive_horizon(system)
        if decisive is not None and decisive <= horizon:
            return bounds_text([[*share(task), weights(task)] for task in system.tasks])
        step = min(step for step in range(horizon) if check_rounds(system, step=step, horizon=horizon))
        return f"never rounds {step} {horizon}"

    def test_a_right_certificate_tells_the_truth(self):
        random = Random(119)
        seen = {}
        for _ in range(400):
            system = random_system(random)
            for text in (
                "never empty", f"never rounds {random.randint(0, 6)} {random.randint(0, 30)}",
                bounds_text([[*share(task), weights(task)] for task in system.tasks]),
                lines("late %d 0" % random.randint(1, 8),
                      *["release %d 0 %s" % (number, task.kinds[0][0]) for number, task in enumerate(system.tasks)]),
            ):
                if check_certificate(system, text):
                    is_late = first_overfull(system, horizon=100) is not None
                    self.assertIs(is_late, text.startswith("late"))
                    seen[text.split(" ")[0], text.split("\n")[0].split(" ")[1]] = True
        self.assertGreaterEqual(len(seen), 5)

    def test_nothing_changes(self):
        system = System([engine_circle()], table=[1])
        text = certificate(system, horizon=20)
        check_certificate(system, text)
        self.assertEqual((system.table, len(system.tasks)), ((1,), 1))
        self.assertEqual(certificate(system, horizon=20), text)


if __name__ == "__main__":
    unittest.main()
