"""Demand: the greatest work that tasks can release within a window."""


def rows(task, length):
    """Return the rows of the lengths 0, 1, .., `length`."""
    kinds = [(cost, deadline, _steps(task, name)) for name, cost, deadline in task.kinds]
    found = []
    for window in range(length + 1):
        row = []
        for cost, deadline, steps in kinds:
            number, _ = _best_step(steps, found, window)
            row.append(number + cost if deadline <= window else number)
        found.append(row)
    return found


def demand(task, length):
    """Return the demand of the task for the length."""
    return max(rows(task, length)[length])


def demands(task, length):
    """Return the demands of the task for the lengths 0, 1, .., `length`."""
    return [max(row) for row in rows(task, length)]


def system_demands(system, length):
    """Return the demands of the system for the lengths 0, 1, .., `length`."""
    return joint_demands(system.tasks, length)


def joint_demands(tasks, length):
    """Return the sums of the demands of the tasks for the lengths 0, 1, .., `length`."""
    totals = [0] * (length + 1)
    for task in tasks:
        totals = [total + number for total, number in zip(totals, demands(task, length))]
    return totals


def heaviest(task, length):
    """Return the heaviest releases of the task for the length."""
    found = rows(task, length)
    greatest = max(found[length])
    if greatest == 0:
        return []
    steps = [_steps(task, kind[0]) for kind in task.kinds]
    kind = found[length].index(greatest)
    time = 0
    releases = [(time, task.kinds[kind][0])]
    _, step = _best_step(steps[kind], found, length)
    while step is not None:
        kind, distance = step
        time += distance
        releases.append((time, task.kinds[kind][0]))
        _, step = _best_step(steps[kind], found, length - time)
    return releases


def _steps(task, kind_name):
    """Return the tuples (target number, distance) of the ways from the kind, in their order."""
    return [(task.kind_number(target), distance) for target, distance in task.ways_from(kind_name)]


def _best_step(steps, found, length):
    """Return the greatest number of a target and the first step to such a target.

    The rows of all smaller lengths are found. Without a number above 0 there is no step: (0, None).
    """
    best = 0
    best_step = None
    for step in steps:
        target, distance = step
        if distance <= length and found[length - distance][target] > best:
            best = found[length - distance][target]
            best_step = step
    return best, best_step
