"""Reports: a system, its demands and its verdict as text."""

from neverlate.bench import decide
from neverlate.circuits import share
from neverlate.demand import demands
from neverlate.ratio import ratio_text
from neverlate.supply import least_supplies


def task_table(system):
    """Return the lines of the table of the tasks."""
    rows = [["task", "kinds", "ways", "share"]]
    for task in system.tasks:
        rows.append([task.name, str(len(task.kinds)), str(len(task.ways)), ratio_text(share(task))])
    return _lines(rows)


def demand_table(system, *, length):
    """Return the lines of the table of the demands up to the length."""
    columns = [demands(task, length) for task in system.tasks]
    offered = least_supplies(system.table, length)
    rows = [["length"] + [task.name for task in system.tasks] + ["demand", "supply"]]
    for part in range(length + 1):
        numbers = [column[part] for column in columns]
        rows.append([str(number) for number in [part] + numbers + [sum(numbers), offered[part]]])
    return _lines(rows)


def verdict_line(system, *, horizon):
    """Return the verdict line of the system and the horizon."""
    answer = decide(system, horizon)
    if answer[0] == "late":
        return f"late at {answer[1]}"
    if answer[0] == "undecided":
        return f"undecided up to {horizon}"
    return "never late"


def report(system, *, horizon, length=10):
    """Return the report of the system, a text of lines that each end with a newline."""
    lines = task_table(system) + [""] + demand_table(system, length=length) + [""]
    lines.append(verdict_line(system, horizon=horizon))
    return "".join([f"{line}\n" for line in lines])


def _lines(rows):
    """Return the lines of a text table, the first column to the left and the others to the right."""
    widths = [max([len(row[column]) for row in rows]) for column in range(len(rows[0]))]
    lines = []
    for row in rows:
        cells = [row[0].ljust(widths[0])]
        cells.extend([cell.rjust(width) for cell, width in zip(row[1:], widths[1:])])
        lines.append("  ".join(cells).rstrip(" "))
    return lines
