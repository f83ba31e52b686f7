"""Rows that come round: numbers that grow no faster than the supply, from some length on."""

from neverlate.demand import rows


def greatest_deadline(system):
    """Return the greatest deadline of all kinds of all tasks, 0 without tasks."""
    return max([task.latest_deadline for task in system.tasks], default=0)


def greatest_distance(system):
    """Return the greatest distance of all ways of all tasks, 0 without ways."""
    return max([task.longest_distance for task in system.tasks], default=0)


def check_rounds(system, *, step, horizon):
    """Return True if the rows of the system come round by the step at the horizon."""
    if step not in _possible_steps(system, horizon):
        return False
    return _come_round(system, _system_rows(system, horizon), step)


def rounds(system, *, horizon):
    """Return the least step by which the rows of the system come round at the horizon, or None."""
    found = _system_rows(system, horizon)
    for step in _possible_steps(system, horizon):
        if _come_round(system, found, step):
            return step
    return None


def _possible_steps(system, horizon):
    """Return the multiples of the length of the table that the horizon has room for."""
    slots = len(system.table)
    longest = horizon - slots - greatest_deadline(system) - greatest_distance(system)
    return list(range(slots, longest + 1, slots))


def _system_rows(system, horizon):
    """Return for each task its rows up to the greatest length that the growths compare."""
    return [rows(task, horizon - len(system.table)) for task in system.tasks]


def _come_round(system, found, step):
    """True if the growths for a possible step are together at most the supply of the step."""
    count = greatest_distance(system)
    spare = sum(system.table) * (step // len(system.table))
    for task_rows in found:
        spare -= _growth(task_rows, step, count)
        if spare < 0:
            return False
    return True


def _growth(task_rows, step, count):
    """Return the growth of a task for the step, from the last rows, so many as the count."""
    end = len(task_rows)
    late_rows = task_rows[end - count:]
    early_rows = task_rows[end - count - step:end - step]
    differences = [
        late - early
        for late_row, early_row in zip(late_rows, early_rows)
        for late, early in zip(late_row, early_row)
    ]
    return max(differences, default=0)
