"""The interface: every name stands in the file under which the document lists it, with these arguments."""

import ast
import importlib
import inspect
import unittest
from pathlib import Path

PACKAGE = Path(__file__).resolve().parent.parent / "neverlate"

FUNCTIONS = {
    "ratio": {
        "make_ratio": "(top, bottom)",
        "add_ratios": "(first, second)",
        "subtract_ratios": "(first, second)",
        "compare_ratios": "(first, second)",
        "sum_ratios": "(ratios)",
        "ratio_text": "(ratio)",
    },
    "notation": {"format_system": "(system)", "parse_system": "(text)"},
    "releases": {
        "follows": "(task, first, second)",
        "is_legal": "(task, releases)",
        "check_releases": "(system, releases)",
        "due": "(task, release)",
        "work": "(task, releases)",
        "work_within": "(task, releases, *, start, end)",
        "system_work_within": "(system, releases, *, start, end)",
        "last_due": "(system, releases)",
        "shift": "(releases, by)",
        "earliest_next": "(task, release)",
        "all_jobs": "(system, releases)",
    },
    "supply": {
        "capacity": "(table, slot)",
        "supply_of_first": "(table, slots)",
        "supply": "(table, start, end)",
        "least_supply": "(table, length)",
        "least_start": "(table, length)",
        "least_supplies": "(table, length)",
        "table_share": "(table)",
        "first_end": "(table, start, wanted)",
    },
    "demand": {
        "rows": "(task, length)",
        "demand": "(task, length)",
        "demands": "(task, length)",
        "system_demands": "(system, length)",
        "heaviest": "(task, length)",
    },
    "circuits": {
        "circuits": "(task)",
        "circuit_mean": "(task, circuit)",
        "best_circuit": "(task)",
        "share": "(task)",
    },
    "weights": {
        "way_weight": "(task, way, rate)",
        "weights": "(task)",
        "check_weights": "(task, rate, numbers)",
        "linear_bound": "(task)",
    },
    "edf": {"run": "(system, releases)", "crowded": "(system, releases)"},
    "schedules": {
        "check_schedule": "(system, releases, slots)",
        "ends_of": "(system, releases, slots)",
        "late_by": "(system, releases, slots)",
        "keeps": "(system, releases, slots)",
        "unused": "(system, slots)",
    },
    "rounds": {
        "greatest_deadline": "(system)",
        "greatest_distance": "(system)",
        "check_rounds": "(system, *, step, horizon)",
        "rounds": "(system, *, horizon)",
    },
    "horizons": {
        "compare_load": "(system)",
        "system_bound": "(system)",
        "decisive_horizon": "(system)",
    },
    "misses": {
        "is_overfull": "(system, *, start, length)",
        "first_overfull": "(system, *, horizon)",
        "is_decided": "(system, *, horizon)",
        "first_miss": "(system, *, horizon)",
        "check_miss": "(system, miss)",
    },
    "verdicts": {"verdict": "(system)", "is_never_late": "(system)"},
    "gives": {
        "trial": "(system, *, horizon)",
        "most_cost": "(system, task_number, kind_name, *, horizon)",
        "least_deadline": "(system, task_number, kind_name, *, horizon)",
        "least_distance": "(system, task_number, way_number, *, horizon)",
        "spare_capacity": "(system, *, horizon)",
    },
    "sets": {"can_live": "(system, numbers, *, horizon)", "cores": "(system, *, horizon)"},
    "waiting": {"most_waiting": "(system, *, horizon)"},
    "report": {
        "task_table": "(system)",
        "demand_table": "(system, *, length)",
        "verdict_line": "(system, *, horizon)",
        "report": "(system, *, horizon, length=10)",
    },
    "bench": {"decide": "(system, horizon)"},
    "tables": {
        "repeated": "(table, times)",
        "rotated": "(table, by)",
        "common_length": "(one, other)",
        "common": "(one, other)",
        "joined": "(one, other)",
        "reduced": "(one, other)",
        "shortest": "(table)",
        "are_alike": "(one, other)",
        "are_rotations": "(one, other)",
        "least_rotation": "(table)",
        "first_shortage": "(one, other)",
        "dominates": "(one, other)",
        "supply_bound": "(table)",
    },
    "servers": {
        "server_table": "(*, period, budget, offset=0, capacity=1)",
        "server_supply": "(*, period, budget, length, capacity=1)",
        "needed_capacity": "(tasks, *, horizon)",
        "needed_budget": "(tasks, *, period, horizon, capacity=1)",
        "longest_period": "(tasks, *, share, horizon, longest)",
    },
    "assign": {
        "is_safe": "(assignment, *, horizon)",
        "assign": "(tasks, tables, *, horizon)",
        "fewest_processors": "(tasks, table, *, horizon)",
        "safe_moves": "(assignment, *, horizon)",
    },
    "policies": {
        "run_policy": "(system, releases, *, policy='deadline')",
        "run_fixed": "(system, releases, *, order)",
        "late_by_policy": "(system, releases)",
        "fixed_order": "(system, releases)",
    },
    "metrics": {
        "response_times": "(releases, outcome)",
        "latenesses": "(system, releases, outcome)",
        "greatest_lateness": "(system, releases, outcome)",
        "interruptions": "(outcome)",
        "busy_intervals": "(outcome)",
        "units_by_task": "(outcome)",
        "unused_total": "(system, outcome)",
        "full_slots": "(system, outcome)",
        "backlog": "(system, releases, outcome)",
    },
    "traces": {
        "format_trace": "(slots)",
        "parse_trace": "(text)",
        "replay": "(system, releases, text)",
    },
    "standin": {
        "first_excess": "(one, other, *, horizon)",
        "lasting_kinds": "(task)",
        "check_stand_in": "(one, other, *, step, horizon)",
        "stand_in_step": "(one, other, *, horizon)",
        "may_stand": "(one, other, *, horizon)",
        "splittings": "(task, length)",
        "part_at": "(task, length)",
        "part_system": "(task, part)",
    },
    "certificates": {
        "certificate": "(system, *, horizon)",
        "check_certificate": "(system, text)",
    },
    "plans": {
        "plan_table": "(tasks, length, *, horizon)",
        "check_plan": "(tasks, length, plan)",
        "trim_table": "(system, *, horizon)",
    },
    "growth": {"joint_costs": "(system, first, second, *, horizon)"},
    "commands": {
        "split_words": "(line)",
        "is_number": "(word)",
        "is_command": "(words)",
        "is_block_line": "(words)",
    },
}

METHODS = {
    ("tasks", "Task"): {
        "__init__": "(self, name, *, kinds, ways=())",
        "kind_number": "(self, kind_name)",
        "cost": "(self, kind_name)",
        "deadline": "(self, kind_name)",
        "ways_from": "(self, kind_name)",
    },
    ("tasks", "System"): {
        "__init__": "(self, tasks, *, table)",
        "task_number": "(self, task_name)",
        "with_task": "(self, number, task)",
        "with_table": "(self, table)",
        "only": "(self, numbers)",
    },
    ("edf", "Outcome"): {
        "__init__": "(self, slots, ends, late)",
        "served": "(self, task, release)",
    },
    ("processor", "Processor"): {
        "__init__": "(self, system)",
        "pending": "(self)",
        "earliest": "(self, name, *, kind)",
        "release": "(self, name, *, kind)",
        "step": "(self)",
        "walk": "(self, count)",
        "forecast": "(self, count, *, told=())",
        "admits": "(self, name, *, kind)",
    },
    ("misses", "Miss"): {"__init__": "(self, instant, start, releases)"},
    ("waiting", "Backlog"): {"__init__": "(self, work, instant, start, releases)"},
    ("bench", "Workbench"): {
        "__init__": "(self)",
        "set_task": "(self, task)",
        "remove_task": "(self, name)",
        "set_table": "(self, name, table)",
        "remove_table": "(self, name)",
        "ask": "(self, name, *, tasks, table, horizon)",
        "drop": "(self, name)",
        "undo": "(self)",
        "redo": "(self)",
        "change_all": "(self, changes)",
        "task_names": "(self)",
        "table_names": "(self)",
        "question_names": "(self)",
        "system": "(self, name)",
        "answer": "(self, name)",
        "answers": "(self)",
    },
    ("assign", "Assignment"): {
        "__init__": "(self, tasks, tables, processors)",
        "task_numbers": "(self, processor)",
        "system": "(self, processor)",
        "systems": "(self)",
        "processor_of": "(self, task_name)",
        "moved": "(self, task_name, processor)",
    },
    ("standin", "Part"): {"__init__": "(self, length, cost, table)"},
    ("plans", "Plan"): {"__init__": "(self, total, table, lengths)"},
    ("session", "Session"): {"__init__": "(self)", "run": "(self, text)"},
}

PROPERTIES = {
    ("tasks", "Task"): ["longest_distance", "latest_deadline"],
    ("edf", "Outcome"): ["on_time"],
    ("processor", "Processor"): ["history"],
    ("assign", "Assignment"): ["used"],
}

# What the document calls a generator. Its call is iterated over, so it is no list.
GENERATORS = [("processor", "Processor", "walk"), ("assign", "Assignment", "systems")]


def module(name):
    return importlib.import_module("neverlate." + name)


class Interface(unittest.TestCase):
    def test_functions(self):
        for file, functions in FUNCTIONS.items():
            for name, signature in functions.items():
                with self.subTest((file, name)):
                    function = getattr(module(file), name)
                    self.assertTrue(inspect.isfunction(function))
                    self.assertEqual(function.__module__, "neverlate." + file)
                    self.assertEqual(str(inspect.signature(function)), signature)

    def test_methods_stand_in_the_class_itself(self):
        for (file, name), methods in METHODS.items():
            made = getattr(module(file), name)
            self.assertEqual(made.__module__, "neverlate." + file)
            for method, signature in methods.items():
                with self.subTest((file, name, method)):
                    self.assertEqual(str(inspect.signature(vars(made)[method])), signature)

    def test_properties(self):
        for (file, name), properties in PROPERTIES.items():
            for word in properties:
                with self.subTest((file, name, word)):
                    self.assertIsInstance(vars(getattr(module(file), name))[word], property)

    def test_generators(self):
        for file, name, method in GENERATORS:
            with self.subTest((file, name, method)):
                self.assertTrue(inspect.isgeneratorfunction(vars(getattr(module(file), name))[method]))

    def test_init_defines_nothing(self):
        tree = ast.parse((PACKAGE / "__init__.py").read_text())
        self.assertEqual([type(row) for row in tree.body], [ast.Expr])
        self.assertIsNotNone(ast.get_docstring(tree))

    def test_each_documented_function_and_class_has_a_docstring(self):
        for file in FUNCTIONS:
            for name in FUNCTIONS[file]:
                self.assertTrue(inspect.getdoc(getattr(module(file), name)), name)
        for file, name in METHODS:
            made = getattr(module(file), name)
            self.assertTrue(vars(made)["__doc__"], name)


if __name__ == "__main__":
    unittest.main()
