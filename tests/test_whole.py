"""The whole program: what its parts answer about the same small systems agrees; point 1."""

import ast
import unittest
from pathlib import Path
from random import Random

from neverlate.assign import Assignment, assign, fewest_processors, is_safe, safe_moves
from neverlate.bench import Workbench, decide
from neverlate.certificates import certificate, check_certificate
from neverlate.edf import crowded, run
from neverlate.errors import FullLoad, Undecided
from neverlate.gives import least_deadline, most_cost, spare_capacity, trial
from neverlate.growth import joint_costs
from neverlate.horizons import compare_load, decisive_horizon
from neverlate.metrics import greatest_lateness
from neverlate.misses import check_miss, first_miss, first_overfull
from neverlate.notation import format_system, parse_system
from neverlate.plans import Plan, check_plan, plan_table, trim_table
from neverlate.policies import fixed_order, late_by_policy
from neverlate.processor import Processor
from neverlate.releases import system_work_within
from neverlate.report import report, verdict_line
from neverlate.schedules import keeps
from neverlate.servers import needed_budget, needed_capacity, server_table
from neverlate.session import Session
from neverlate.sets import can_live, cores
from neverlate.standin import Part, first_excess, may_stand, part_at, part_system, stand_in_step
from neverlate.supply import supply
from neverlate.tables import dominates
from neverlate.tasks import System, Task
from neverlate.traces import format_trace, replay
from neverlate.verdicts import verdict
from samples import lone, random_releases, random_system, random_table, random_task

PACKAGE = Path(__file__).resolve().parent.parent / "neverlate"
HORIZON = 60


def verdict_of(system):
    """The verdict, or "full" if it raises FullLoad."""
    try:
        return verdict(system)
    except FullLoad:
        return "full"


def told_system(system, name, horizon):
    """The lines by which a session is told the system as the question of this name."""
    rows = []
    for task in system.tasks:
        rows.append(f"task {task.name}")
        rows.extend("kind %s %d %d" % kind for kind in task.kinds)
        rows.extend("way %s %s %d" % way for way in task.ways)
        rows.append("end")
    rows.append(" ".join(["table t"] + [str(units) for units in system.table]))
    rows.append(" ".join(["ask", name, str(horizon), "t"] + [task.name for task in system.tasks]))
    return "\n".join(rows)


def fields(system):
    return ([(task.name, task.kinds, task.ways) for task in system.tasks], system.table)


class Verdicts(unittest.TestCase):
    def test_the_first_miss_the_verdict_and_the_certificate(self):
        random = Random(1)
        seen = {}
        for _ in range(250):
            system = random_system(random)
            found = verdict_of(system)
            kind = trial(system, horizon=HORIZON)
            seen[kind] = True
            if found is None:
                self.assertNotEqual(kind, "fails")
            elif found != "full" and found.instant <= HORIZON:
                self.assertEqual(kind, "fails")
            if kind == "undecided":
                with self.assertRaises(Undecided):
                    certificate(system, horizon=HORIZON)
                continue
            text = certificate(system, horizon=HORIZON)
            self.assertTrue(check_certificate(system, text))
            self.assertEqual(text.startswith("late"), kind == "fails")
            self.assertEqual(text.startswith("late"), found is not None)
        self.assertIn("fails", seen)
        self.assertIn("holds", seen)

    def test_a_certificate_of_one_system_beside_another_one(self):
        # A certificate that is right for a system tells the truth about it, whichever system it was made for.
        random = Random(2)
        count = 0
        for _ in range(150):
            one = random_system(random)
            other = one.with_table(random_table(random))
            try:
                text = certificate(one, horizon=HORIZON)
            except Undecided:
                continue
            if check_certificate(other, text):
                is_late = first_overfull(other, horizon=200) is not None
                self.assertEqual(is_late, text.startswith("late"))
                count += 1
        self.assertGreater(count, 40)

    def test_a_miss_shows_in_every_place(self):
        random = Random(3)
        count = 0
        for _ in range(250):
            system = random_system(random, tasks=3)
            if trial(system, horizon=HORIZON) != "fails":
                continue
            count += 1
            miss = first_miss(system, horizon=HORIZON)
            self.assertTrue(check_miss(system, miss))
            outcome = run(system, miss.releases)
            self.assertEqual(outcome.late, miss.instant)
            start, end = crowded(system, miss.releases)
            self.assertEqual(end, miss.instant)
            self.assertGreater(
                system_work_within(system, miss.releases, start=start, end=end), supply(system.table, start, end)
            )
            self.assertFalse(keeps(system, miss.releases, outcome.slots))
            self.assertEqual(replay(system, miss.releases, format_trace(outcome.slots)), miss.instant)
            self.assertTrue(all(late is not None for _, late in late_by_policy(system, miss.releases)))
            self.assertIsNone(fixed_order(system, miss.releases))
            lateness = greatest_lateness(system, miss.releases, outcome)
            self.assertTrue(lateness is None or lateness > 0)
        self.assertGreater(count, 50)

    def test_the_workbench_the_session_and_the_report(self):
        random = Random(4)
        seen = {}
        for _ in range(150):
            system = random_system(random)
            horizon = random.randint(1, 30)
            answer = decide(system, horizon)
            line = verdict_line(system, horizon=horizon)
            session = Session()
            session.run(told_system(system, "q", horizon))
            self.assertEqual(session.bench.answers(), [("q", answer)])
            shown = session.run("answer q")[0]
            if answer[0] == "never":
                self.assertEqual((shown, line), ("q: never", "never late"))
            elif answer[0] == "late":
                miss = first_miss(system, horizon=horizon)
                self.assertEqual(answer, ("late", miss.instant, miss.start))
                self.assertEqual(shown, f"q: {line} from {miss.start}")
            else:
                self.assertEqual(shown, f"q: {line}")
            self.assertEqual(report(system, horizon=horizon).split("\n")[-2], line)
            self.assertEqual(fields(parse_system("\n".join(session.run("system q")))), fields(system))
            seen[answer[0]] = True
        self.assertEqual(len(seen), 3)


class Running(unittest.TestCase):
    def test_a_processor_that_is_told_the_releases_of_a_miss(self):
        random = Random(5)
        count = 0
        for _ in range(150):
            system = random_system(random)
            if trial(system, horizon=30) != "fails":
                continue
            count += 1
            miss = first_miss(system, horizon=30)
            processor = self.told(system, miss.releases, miss.instant)
            self.assertEqual(processor.late, miss.instant)
            self.assertEqual(processor.history, miss.releases)
        self.assertGreater(count, 30)

    def told(self, system, releases, end):
        """The processor at this time that was told the releases. Its slots are those of a run."""
        processor = Processor(system)
        outcome = run(system, releases)
        for time in range(end):
            for task, row in zip(system.tasks, releases):
                for released, kind in row:
                    if released == time:
                        processor.release(task.name, kind=kind)
            slot = processor.step()
            self.assertEqual(slot, outcome.slots[time] if time < len(outcome.slots) else [])
        return processor

    def test_where_no_job_is_ever_late_a_processor_admits_all_that_comes_in_time(self):
        random = Random(6)
        count = 0
        for _ in range(150):
            system = random_system(random)
            if verdict_of(system) is not None or not system.tasks:
                continue
            processor = Processor(system)
            for _ in range(12):
                for task in system.tasks:
                    kind = random.choice(task.kinds)[0]
                    time = processor.earliest(task.name, kind=kind)
                    in_time = time is not None and time <= processor.time
                    self.assertIs(processor.admits(task.name, kind=kind), in_time)
                    if in_time and random.random() < 0.7:
                        processor.release(task.name, kind=kind)
                        count += 1
                processor.step()
            self.assertIsNone(processor.late)
        self.assertGreater(count, 100)

    def test_where_no_job_is_ever_late_no_run_is(self):
        random = Random(7)
        count = 0
        for _ in range(400):
            system = random_system(random)
            if verdict_of(system) is None:
                releases = [random_releases(random, task, count=6, slack=1) for task in system.tasks]
                self.assertIsNone(run(system, releases).late)
                self.assertIsNone(crowded(system, releases))
                count += any(releases)
        self.assertGreater(count, 30)


class Together(unittest.TestCase):
    def test_one_processor(self):
        random = Random(8)
        seen = {}
        for _ in range(150):
            system = random_system(random)
            kind = trial(system, horizon=8)
            seen[kind] = True
            numbers = list(range(len(system.tasks)))
            assignment = Assignment(system.tasks, [system.table], [0] * len(numbers))
            if kind == "undecided":
                for call in (
                    lambda: is_safe(assignment, horizon=8), lambda: can_live(system, numbers, horizon=8),
                    lambda: assign(system.tasks, [system.table], horizon=8), lambda: cores(system, horizon=8),
                    lambda: fewest_processors(system.tasks, system.table, horizon=8),
                ):
                    with self.assertRaises(Undecided):
                        call()
                continue
            self.assertEqual(is_safe(assignment, horizon=8), kind == "holds")
            self.assertEqual(can_live(system, numbers, horizon=8), kind == "holds")
            found = assign(system.tasks, [system.table], horizon=8)
            self.assertEqual(found is not None, kind == "holds")
            if found is not None:
                self.assertEqual(fields(found.system(0)), fields(system))
                self.assertEqual(fewest_processors(system.tasks, system.table, horizon=8).tables, (system.table,))
        self.assertEqual(len(seen), 3)

    def test_cores_and_assignments(self):
        # Without ways everything is decided; a processor is refused exactly if a core stands on it.
        random = Random(9)
        count = 0
        for _ in range(100):
            tasks = [random_task(random, "t%d" % number, ways=0) for number in range(3)]
            table = random_table(random)
            found = cores(System(tasks, table=table), horizon=30)
            for processors in ([0, 0, 0], [0, 0, 1], [0, 1, 0], [0, 1, 1], [1, 0, 1]):
                assignment = Assignment(tasks, [table, table], processors)
                stands = any(
                    set(core) <= set(assignment.task_numbers(processor)) for core in found for processor in (0, 1)
                )
                self.assertEqual(is_safe(assignment, horizon=30), not stands)
                count += stands
                for name, processor in safe_moves(assignment, horizon=30):
                    self.assertTrue(is_safe(assignment.moved(name, processor), horizon=30))
        self.assertGreater(count, 50)

    def test_what_can_grow(self):
        random = Random(10)
        count = 0
        for _ in range(300):
            system = random_system(random)
            if trial(system, horizon=HORIZON) != "holds" or not system.tasks:
                continue
            name = system.tasks[0].kinds[0][0]
            try:
                cost = most_cost(system, 0, name, horizon=HORIZON)
                deadline = least_deadline(system, 0, name, horizon=HORIZON)
                spare = spare_capacity(system, horizon=HORIZON)
            except Undecided:
                continue
            count += 1
            self.assertGreaterEqual(cost, system.tasks[0].cost(name))
            self.assertLessEqual(deadline, system.tasks[0].deadline(name))
            lower = system.with_table([units - spare for units in system.table])
            self.assertIsNone(verdict_of(lower))
            self.assertTrue(check_certificate(lower, certificate(lower, horizon=HORIZON)))
        self.assertGreater(count, 20)


class Places(unittest.TestCase):
    def test_what_may_stand_in_the_place_of_a_task(self):
        random = Random(11)
        seen = {}
        for _ in range(300):
            one, other = random_task(random, "one"), random_task(random, "other")
            try:
                part = may_stand(one, other, horizon=40)
            except Undecided:
                self.assertIsNone(first_excess(one, other, horizon=40))
                self.assertIsNone(stand_in_step(one, other, horizon=40))
                continue
            seen[part is None] = True
            if part is None:
                system = System([other, random_task(random, "further")], table=random_table(random))
                if verdict_of(system) is None:
                    self.assertIsNone(first_overfull(system.with_task(0, one), horizon=100))
                    seen["safe"] = True
                continue
            self.assertEqual(part.length, first_excess(one, other, horizon=40))
            safe = part_system(other, part)
            self.assertIsNone(verdict(safe))
            late = part_system(one, part)
            self.assertLessEqual(verdict(late).instant, part.length)
            text = certificate(late, horizon=part.length)
            self.assertTrue(check_certificate(late, text))
            self.assertFalse(check_certificate(safe, text))
        self.assertEqual(len(seen), 3)

    def test_a_greater_cost_asks_for_more(self):
        one, other = lone("one", 3, 4, 5), lone("other", 2, 4, 5)
        self.assertIsNone(may_stand(other, one, horizon=40))
        self.assertEqual(may_stand(one, other, horizon=40).length, 4)


class Tables(unittest.TestCase):
    def planned(self, random, slots):
        """Tasks and their plan for a table of so many slots, or None if it is undecided."""
        tasks = [random_task(random, "t%d" % number) for number in range(random.randint(0, 3))]
        try:
            return tasks, plan_table(tasks, slots, horizon=HORIZON)
        except Undecided:
            return tasks, None

    def test_plans_verdicts_and_certificates(self):
        random = Random(12)
        count = 0
        for _ in range(100):
            slots = random.randint(1, 6)
            tasks, plan = self.planned(random, slots)
            if plan is None:
                continue
            count += 1
            self.assertTrue(check_plan(tasks, slots, plan))
            system = System(tasks, table=plan.table)
            self.assertIsNone(verdict_of(system))
            self.assertTrue(check_certificate(system, certificate(system, horizon=HORIZON)))
            self.assertLessEqual(compare_load(system), 0)
            # No smaller sum is enough, so nothing can be trimmed.
            self.assertEqual(trim_table(system, horizon=HORIZON), plan.table)
            self.assertEqual(trial(system, horizon=HORIZON), "holds")
        self.assertGreater(count, 30)

    def test_one_slot_is_the_needed_capacity(self):
        random = Random(13)
        count = 0
        for _ in range(100):
            tasks, plan = self.planned(random, 1)
            if plan is None:
                continue
            count += 1
            needed = needed_capacity(tasks, horizon=HORIZON)
            self.assertEqual((plan.total, plan.table), (needed, [needed]))
            self.assertEqual(trim_table(System(tasks, table=[needed + 5]), horizon=HORIZON), [needed])
        self.assertGreater(count, 30)

    def test_a_server_with_the_needed_budget(self):
        random = Random(14)
        count = 0
        for _ in range(100):
            period = random.randint(1, 6)
            tasks, plan = self.planned(random, period)
            budget = needed_budget(tasks, period=period, horizon=HORIZON, capacity=3)
            if plan is None or budget is None:
                continue
            count += 1
            table = server_table(period=period, budget=budget, offset=random.randrange(period), capacity=3)
            self.assertNotEqual(trial(System(tasks, table=table), horizon=HORIZON), "fails")
            self.assertGreaterEqual(sum(table), plan.total)
        self.assertGreater(count, 20)

    def test_a_table_that_dominates_a_safe_one_is_safe(self):
        random = Random(15)
        count = 0
        for _ in range(200):
            system = random_system(random)
            table = random_table(random)
            if dominates(table, system.table) and verdict_of(system) is None:
                self.assertNotEqual(trial(system.with_table(table), horizon=HORIZON), "fails")
                count += 1
        self.assertGreater(count, 10)


class Point1(unittest.TestCase):
    def test_no_function_modifies_its_arguments(self):
        tasks = [lone("a", 1, 4, 4), lone("b", 1, 4)]
        table = [1, 1]
        system = System(tasks, table=table)
        plan, part = Plan(1, [0, 1], [2]), Part(3, 1, [0, 0, 1, 57])
        first, second = (0, "k"), (1, "k")
        before = [fields(System([task], table=[1])) for task in tasks]
        plan_table(tasks, 2, horizon=40)
        check_plan(tasks, 2, plan)
        trim_table(system, horizon=40)
        joint_costs(system, first, second, horizon=40)
        may_stand(tasks[0], tasks[1], horizon=40)
        part_at(tasks[0], 4)
        part_system(tasks[0], part)
        check_certificate(system, certificate(system, horizon=40))
        self.assertEqual([fields(System([task], table=[1])) for task in tasks], before)
        self.assertEqual((len(tasks), table, system.table), (2, [1, 1], (1, 1)))
        self.assertEqual((plan.total, plan.table, plan.lengths), (1, [0, 1], [2]))
        self.assertEqual((part.length, part.cost, part.table), (3, 1, [0, 0, 1, 57]))

    def test_lists_that_are_passed_are_copied_where_they_are_kept(self):
        kinds, ways, table = [("k", 1, 4)], [("k", "k", 4)], [1]
        task = Task("t", kinds=kinds, ways=ways)
        system = System([task], table=table)
        lengths, names = [2], ["t"]
        plan, part = Plan(1, table, lengths), Part(1, 1, table)
        bench = Workbench()
        bench.change_all([("set_task", task), ("set_table", "s", table), ("ask", "q", names, "s", 40)])
        for row in (kinds, ways, table, lengths, names):
            row.append("more")
        self.assertEqual((task.kinds, task.ways, system.table), ((("k", 1, 4),), (("k", "k", 4),), (1,)))
        self.assertEqual((plan.table, plan.lengths, part.table), ([1], [2], [1]))
        self.assertEqual(bench.answer("q"), ("never",))

    def test_the_same_answers_again(self):
        random = Random(16)
        for _ in range(30):
            system = random_system(random)
            first = [decide(system, 30), trim_table(system.with_table([9]), horizon=200), decisive_horizon(system)]
            again = [decide(system, 30), trim_table(system.with_table([9]), horizon=200), decisive_horizon(system)]
            self.assertEqual(first, again)

    def test_no_clock_no_random_numbers_and_no_files(self):
        for path in PACKAGE.glob("*.py"):
            for node in ast.walk(ast.parse(path.read_text())):
                if isinstance(node, ast.ImportFrom) and not node.module.startswith("neverlate."):
                    self.assertIn(node.module, ("math", "heapq", "itertools"), path.name)
                self.assertNotIsInstance(node, ast.Import, path.name)
                if isinstance(node, ast.Name):
                    self.assertNotIn(node.id, ("open", "input", "print", "__import__", "exec", "eval"), path.name)


if __name__ == "__main__":
    unittest.main()
