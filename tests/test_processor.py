"""neverlate.processor: points 40 to 43."""

import unittest
from random import Random

from neverlate.edf import run
from neverlate.errors import TooEarly, UnknownName
from neverlate.processor import Processor
from neverlate.releases import follows
from neverlate.tasks import System, Task
from samples import engine, engine_circle, lone, random_system


def state(processor):
    """All that a caller can see of a processor."""
    return (processor.time, processor.late, processor.history, processor.pending())


def told(system, names):
    """A processor that was told a release of the kind "k" of each of these tasks at time 0."""
    processor = Processor(system)
    for name in names:
        processor.release(name, kind="k")
    return processor


def offers(processor):
    """All (task, kind) that may be told now, and all that may not, each with its earliest time."""
    now, later = [], []
    for task in processor.system.tasks:
        for kind, _, _ in task.kinds:
            time = processor.earliest(task.name, kind=kind)
            (now if time == processor.time else later).append((task.name, kind, time))
    return now, later


def random_walks(seed, count, steps=12):
    """Processors of small systems, seen directly before each of their steps, and the slots until then."""
    random = Random(seed)
    for _ in range(count):
        processor = Processor(random_system(random, tasks=3))
        slots = []
        for _ in range(steps):
            now, _ = offers(processor)
            if now and random.random() < 0.6:
                name, kind, _ = random.choice(now)
                processor.release(name, kind=kind)
            yield processor, slots, random
            slots.append(processor.step())


class Point40(unittest.TestCase):
    def test_example(self):
        task = Task("first", kinds=[("a", 2, 3)], ways=[("a", "a", 2)])
        processor = Processor(System([task], table=[1]))
        self.assertEqual(processor.release("first", kind="a"), 0)
        self.assertEqual(processor.step(), [(0, 0, 1)])
        self.assertEqual(processor.pending(), [(0, 0, 1)])
        self.assertEqual(processor.earliest("first", kind="a"), 2)
        self.assertEqual(processor.forecast(2), [[(0, 0, 1)], []])
        self.assertIs(processor.admits("first", kind="a"), False)

    def test_at_the_beginning(self):
        system = System([lone("a", 1, 1), lone("b", 1, 1)], table=[1])
        processor = Processor(system)
        self.assertIs(processor.system, system)
        self.assertEqual(state(processor), (0, None, [[], []], []))
        self.assertEqual(Processor(System([], table=[1])).history, [])

    def test_releases_are_told_at_the_current_time(self):
        processor = Processor(System([lone("a", 1, 9, 1), lone("b", 1, 9)], table=[1]))
        processor.release("a", kind="k")
        processor.step()
        processor.step()
        processor.release("b", kind="k")
        processor.release("a", kind="k")
        self.assertEqual(processor.history, [[(0, "k"), (2, "k")], [(2, "k")]])

    def test_numbers_count_for_each_task_by_itself(self):
        processor = Processor(System([lone("a", 1, 9, 1), lone("b", 1, 9, 1)], table=[1]))
        self.assertEqual(processor.release("a", kind="k"), 0)
        self.assertEqual(processor.release("b", kind="k"), 0)
        processor.step()
        self.assertEqual(processor.release("b", kind="k"), 1)
        processor.step()
        self.assertEqual(processor.release("b", kind="k"), 2)
        self.assertEqual(processor.release("a", kind="k"), 1)

    def test_the_history_is_a_new_list(self):
        processor = told(System([lone("a", 1, 9)], table=[1]), "a")
        history = processor.history
        history[0].append((5, "k"))
        history.append([])
        self.assertEqual(processor.history, [[(0, "k")]])
        self.assertIsNone(processor.earliest("a", kind="k"))

    def test_pending_is_a_new_list_in_the_order_of_turns(self):
        system = System([lone("a", 2, 9), lone("b", 3, 4), lone("c", 1, 9)], table=[1])
        processor = told(system, "cab")
        self.assertEqual(processor.pending(), [(1, 0, 3), (0, 0, 2), (2, 0, 1)])
        processor.pending().clear()
        self.assertEqual(processor.pending(), [(1, 0, 3), (0, 0, 2), (2, 0, 1)])


class Point41(unittest.TestCase):
    def test_the_first_release_may_have_any_kind(self):
        for time in (0, 3):
            processor = Processor(System([engine([])], table=[1]))
            list(processor.walk(time))
            for kind in "ab":
                self.assertEqual(processor.earliest("engine", kind=kind), time)
        self.assertEqual(processor.release("engine", kind="b"), 0)

    def test_a_later_release_early_just_in_time_and_late(self):
        processor = told(System([lone("t", 1, 9, 3)], table=[1]), "t")
        for time, earliest in ((0, 3), (1, 3), (2, 3), (3, 3), (4, 4), (5, 5)):
            self.assertEqual(processor.time, time)
            self.assertEqual(processor.earliest("t", kind="k"), earliest)
            if time < 3:
                with self.assertRaises(TooEarly) as caught:
                    processor.release("t", kind="k")
                self.assertEqual(caught.exception.time, 3)
            processor.step()
        self.assertEqual(processor.release("t", kind="k"), 1)
        self.assertEqual(processor.history, [[(0, "k"), (6, "k")]])
        self.assertEqual(processor.earliest("t", kind="k"), 9)

    def test_a_release_just_in_time(self):
        processor = told(System([lone("t", 1, 9, 3)], table=[1]), "t")
        list(processor.walk(3))
        self.assertEqual(processor.release("t", kind="k"), 1)
        self.assertEqual(processor.history, [[(0, "k"), (3, "k")]])

    def test_a_kind_to_which_no_way_leads(self):
        processor = Processor(System([engine()], table=[1]))
        processor.release("engine", kind="a")
        list(processor.walk(9))
        self.assertIsNone(processor.earliest("engine", kind="a"))
        with self.assertRaises(TooEarly) as caught:
            processor.release("engine", kind="a")
        self.assertIsNone(caught.exception.time)
        self.assertIs(processor.admits("engine", kind="a"), False)
        self.assertEqual(processor.earliest("engine", kind="b"), 9)

    def test_of_several_ways_the_shortest_counts(self):
        for distances in ((5, 2, 7), (2, 5), (7, 2)):
            ways = [("a", "b", distance) for distance in distances]
            processor = Processor(System([engine(ways)], table=[1]))
            processor.release("engine", kind="a")
            self.assertEqual(processor.earliest("engine", kind="b"), 2)

    def test_only_the_last_release_counts(self):
        ways = [("a", "b", 1), ("a", "a", 5), ("b", "a", 2)]
        processor = Processor(System([engine(ways)], table=[1]))
        processor.release("engine", kind="a")
        processor.step()
        processor.release("engine", kind="b")
        self.assertEqual(processor.earliest("engine", kind="a"), 3)
        self.assertIsNone(processor.earliest("engine", kind="b"))

    def test_tasks_do_not_hinder_each_other(self):
        processor = told(System([lone("a", 1, 9, 5), lone("b", 1, 9)], table=[1]), "a")
        self.assertEqual(processor.earliest("b", kind="k"), 0)
        self.assertEqual(processor.release("b", kind="k"), 0)

    def test_unknown_tasks_and_kinds(self):
        processor = told(System([lone("t", 1, 9, 3)], table=[1]), "t")
        before = state(processor)
        for call in (processor.earliest, processor.release, processor.admits):
            for name, kind, unknown in (("x", "k", "x"), ("x", "y", "x"), ("t", "y", "y"), ("k", "k", "k")):
                with self.subTest((call.__name__, name, kind)), self.assertRaises(UnknownName) as caught:
                    call(name, kind=kind)
                self.assertEqual(caught.exception.name, unknown)
        self.assertEqual(state(processor), before)

    def test_a_refused_release_changes_nothing(self):
        processor = told(System([lone("t", 3, 9, 3)], table=[1]), "t")
        processor.step()
        before = state(processor)
        for _ in range(2):
            with self.assertRaises(TooEarly):
                processor.release("t", kind="k")
            self.assertEqual(state(processor), before)
        self.assertEqual([processor.step() for _ in range(3)], [[(0, 0, 1)], [(0, 0, 1)], []])

    def test_the_earliest_time_is_the_least_at_which_the_release_follows(self):
        for processor, _, _ in random_walks(41, 80):
            for task, row in zip(processor.system.tasks, processor.history):
                for kind, _, _ in task.kinds:
                    times = [
                        time
                        for time in range(processor.time, processor.time + 9)
                        if not row or follows(task, row[-1], (time, kind))
                    ]
                    self.assertEqual(processor.earliest(task.name, kind=kind), min(times, default=None))


class Point42(unittest.TestCase):
    def test_a_step_without_jobs(self):
        processor = Processor(System([], table=[3]))
        self.assertEqual([processor.step(), processor.step()], [[], []])
        self.assertEqual(state(processor), (2, None, [], []))

    def test_a_step_with_a_capacity_of_0(self):
        processor = told(System([lone("t", 2, 9)], table=[0, 5]), "t")
        self.assertEqual(processor.step(), [])
        self.assertEqual(processor.pending(), [(0, 0, 2)])
        self.assertEqual(processor.step(), [(0, 0, 2)])
        self.assertEqual(processor.pending(), [])

    def test_a_slot_serves_several_jobs_in_their_order(self):
        system = System([lone("a", 2, 9), lone("b", 3, 4), lone("c", 2, 9)], table=[6, 1])
        processor = told(system, "cab")
        self.assertEqual(processor.step(), [(1, 0, 3), (0, 0, 2), (2, 0, 1)])
        self.assertEqual(processor.step(), [(2, 0, 1)])

    def test_a_job_is_served_behind_its_due(self):
        processor = told(System([lone("t", 2, 1)], table=[1]), "t")
        self.assertEqual([processor.step() for _ in range(3)], [[(0, 0, 1)], [(0, 0, 1)], []])
        self.assertEqual(processor.late, 1)

    def test_late_comes_with_the_due(self):
        processor = told(System([lone("t", 1, 3)], table=[0]), "t")
        lates = []
        for _ in range(6):
            lates.append(processor.late)
            processor.step()
        self.assertEqual(lates, [None, None, None, 3, 3, 3])

    def test_a_job_that_is_done_just_at_its_due_is_not_late(self):
        processor = told(System([lone("t", 3, 3)], table=[1]), "t")
        list(processor.walk(9))
        self.assertIsNone(processor.late)

    def test_late_does_not_change_any_more(self):
        processor = told(System([lone("a", 2, 2), lone("b", 9, 1), lone("c", 1, 5)], table=[1]), "abc")
        processor.step()
        self.assertEqual(processor.late, 1)
        for _ in range(20):
            processor.step()
            self.assertEqual(processor.late, 1)
        self.assertEqual(processor.pending(), [])

    def test_the_least_due_of_jobs_that_are_late_at_once(self):
        processor = told(System([lone("a", 1, 3), lone("b", 1, 2)], table=[0]), "ab")
        list(processor.walk(9))
        self.assertEqual(processor.late, 2)

    def test_walk(self):
        processor = told(System([lone("t", 2, 9)], table=[1]), "t")
        walk = processor.walk(3)
        self.assertEqual(processor.time, 0)
        self.assertEqual(next(walk), [(0, 0, 1)])
        self.assertEqual(list(walk), [[(0, 0, 1)], []])
        self.assertEqual(processor.time, 3)
        self.assertEqual(list(processor.walk(0)), [])
        self.assertEqual(processor.time, 3)

    def test_releases_may_be_told_between_the_steps_of_a_walk(self):
        processor = told(System([lone("a", 3, 9), lone("b", 1, 1)], table=[1]), "a")
        slots = []
        for slot in processor.walk(4):
            slots.append(slot)
            if processor.time == 1:
                processor.release("b", kind="k")
        self.assertEqual(slots, [[(0, 0, 1)], [(1, 0, 1)], [(0, 0, 1)], [(0, 0, 1)]])

    def test_does_in_each_slot_what_a_run_does(self):
        for processor, slots, _ in random_walks(42, 80):
            outcome = run(processor.system, processor.history)
            shared = min(len(slots), len(outcome.slots))
            self.assertEqual(slots[:shared], outcome.slots[:shared])
            if outcome.late is None or outcome.late > processor.time:
                self.assertIsNone(processor.late)
            else:
                self.assertEqual(processor.late, outcome.late)


class Point43(unittest.TestCase):
    def test_a_forecast_of_0_steps(self):
        processor = told(System([lone("a", 1, 9), lone("b", 1, 9)], table=[1]), "a")
        self.assertEqual(processor.forecast(0), [])
        self.assertEqual(processor.forecast(0, told=[("b", "k")]), [])
        with self.assertRaises(TooEarly):
            processor.forecast(0, told=[("a", "k")])

    def test_a_forecast_with_releases(self):
        processor = told(System([lone("a", 2, 9), lone("b", 1, 3)], table=[1]), "a")
        before = state(processor)
        self.assertEqual(processor.forecast(3), [[(0, 0, 1)], [(0, 0, 1)], []])
        self.assertEqual(processor.forecast(3, told=[("b", "k")]), [[(1, 0, 1)], [(0, 0, 1)], [(0, 0, 1)]])
        self.assertEqual(processor.forecast(3, told=(("b", "k"),)), [[(1, 0, 1)], [(0, 0, 1)], [(0, 0, 1)]])
        self.assertEqual(state(processor), before)
        self.assertEqual(list(processor.walk(3)), [[(0, 0, 1)], [(0, 0, 1)], []])

    def test_a_forecast_behind_the_first_late_job(self):
        processor = told(System([lone("t", 2, 1)], table=[0, 1]), "t")
        self.assertEqual(processor.forecast(4), [[], [(0, 0, 1)], [], [(0, 0, 1)]])
        self.assertIsNone(processor.late)

    def test_a_forecast_with_a_refused_release(self):
        processor = told(System([lone("a", 2, 9, 3), lone("b", 1, 3)], table=[1]), "a")
        processor.step()
        before = state(processor)
        for rows in ([("a", "k")], [("b", "k"), ("a", "k")], [("b", "k"), ("b", "k")]):
            with self.subTest(rows), self.assertRaises(TooEarly) as caught:
                processor.forecast(3, told=rows)
            self.assertEqual(caught.exception.time, 3 if ("a", "k") in rows else None)
            self.assertEqual(state(processor), before)
        self.assertEqual(processor.release("b", kind="k"), 0)

    def test_a_forecast_with_unknown_names(self):
        processor = told(System([lone("a", 2, 9, 3), lone("b", 1, 3)], table=[1]), "a")
        before = state(processor)
        for rows, unknown in (
            ([("x", "y")], "x"), ([("b", "y")], "y"), ([("b", "k"), ("x", "k")], "x"), ([("x", "k"), ("a", "k")], "x"),
        ):
            with self.subTest(rows), self.assertRaises(UnknownName) as caught:
                processor.forecast(3, told=rows)
            self.assertEqual(caught.exception.name, unknown)
            self.assertEqual(state(processor), before)

    def test_the_releases_of_a_forecast_follow_each_other(self):
        processor = Processor(System([lone("a", 1, 9, 1)], table=[1]))
        with self.assertRaises(TooEarly) as caught:
            processor.forecast(3, told=[("a", "k"), ("a", "k")])
        self.assertEqual(caught.exception.time, 1)
        self.assertEqual(state(processor), (0, None, [[]], []))

    def test_a_kind_that_is_too_early_is_not_admitted(self):
        processor = told(System([lone("t", 1, 9, 2)], table=[1]), "t")
        self.assertIs(processor.admits("t", kind="k"), False)
        processor.step()
        self.assertIs(processor.admits("t", kind="k"), False)
        processor.step()
        self.assertIs(processor.admits("t", kind="k"), True)

    def test_a_kind_that_would_be_late_itself(self):
        for deadline, admitted in ((1, False), (2, False), (3, True)):
            processor = Processor(System([lone("t", 2, deadline)], table=[0, 1, 1]))
            self.assertIs(processor.admits("t", kind="k"), admitted)
            self.assertEqual(state(processor), (0, None, [[]], []))

    def test_a_kind_that_makes_a_later_job_late(self):
        processor = told(System([lone("a", 4, 5), lone("b", 1, 1), lone("c", 2, 2)], table=[1]), "a")
        before = state(processor)
        self.assertIs(processor.admits("b", kind="k"), True)
        self.assertIs(processor.admits("c", kind="k"), False)
        self.assertEqual(state(processor), before)
        self.assertEqual(processor.release("c", kind="k"), 0)

    def test_a_job_that_would_be_late_long_behind_the_asked_one(self):
        processor = told(System([lone("a", 500, 1000), lone("b", 1, 1)], table=[0, 1]), "a")
        self.assertIs(processor.admits("b", kind="k"), False)
        processor.step()
        self.assertIs(processor.admits("b", kind="k"), False)
        processor = told(System([lone("a", 499, 1000), lone("b", 1, 2)], table=[0, 1]), "a")
        self.assertIs(processor.admits("b", kind="k"), True)

    def test_a_table_of_zeros_admits_nothing(self):
        processor = Processor(System([lone("t", 1, 1000)], table=[0, 0]))
        self.assertIs(processor.admits("t", kind="k"), False)

    def test_behind_a_late_job_nothing_is_admitted(self):
        processor = told(System([lone("a", 2, 1), lone("b", 1, 9)], table=[1]), "a")
        self.assertIs(processor.admits("b", kind="k"), False)
        list(processor.walk(5))
        self.assertEqual((processor.pending(), processor.late), ([], 1))
        self.assertIs(processor.admits("b", kind="k"), False)

    def test_unknown_names_come_before_too_early(self):
        processor = told(System([engine_circle()], table=[1]), [])
        processor.release("engine", kind="a")
        with self.assertRaises(UnknownName):
            processor.admits("engine", kind="c")

    def test_against_runs(self):
        for processor, slots, random in random_walks(43, 60):
            before = state(processor)
            now, later = offers(processor)
            for name, kind, _ in later:
                self.assertIs(processor.admits(name, kind=kind), False)
            for name, kind, _ in now:
                releases = processor.history
                releases[processor.system.task_number(name)].append((processor.time, kind))
                outcome = run(processor.system, releases)
                self.assertIs(processor.admits(name, kind=kind), outcome.on_time)
                count = random.randint(0, 6)
                forecast = slots + processor.forecast(count, told=[(name, kind)])
                self.assertEqual(len(forecast), len(slots) + count)
                shared = min(len(forecast), len(outcome.slots))
                self.assertEqual(forecast[:shared], outcome.slots[:shared])
            self.assertEqual(state(processor), before)


if __name__ == "__main__":
    unittest.main()
