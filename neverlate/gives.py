"""Changes that keep a system safe: how far a number can go before a job can be late."""

from neverlate.errors import Undecided, UnknownNumber
from neverlate.misses import first_miss, first_overfull
from neverlate.rules import MOST_UNITS
from neverlate.tasks import Task


def trial(system, *, horizon):
    """Return "holds", "fails" or "undecided"."""
    try:
        miss = first_miss(system, horizon=horizon)
    except Undecided:
        return "undecided"
    return "holds" if miss is None else "fails"


def most_cost(system, task_number, kind_name, *, horizon):
    """Return the greatest cost of the kind that keeps the system safe, or None."""
    task = system.task_at(task_number)
    number = task.kind_number(kind_name)
    name, present, deadline = task.kinds[number]

    def changed(cost):
        return system.with_task(task_number, with_kind(task, number, (name, cost, deadline)))

    return _last_good(list(range(present, MOST_UNITS + 1)), changed, horizon)


def least_deadline(system, task_number, kind_name, *, horizon):
    """Return the least deadline of the kind that keeps the system safe, or None."""
    task = system.task_at(task_number)
    number = task.kind_number(kind_name)
    name, cost, present = task.kinds[number]

    def changed(deadline):
        return system.with_task(task_number, with_kind(task, number, (name, cost, deadline)))

    return _last_good(list(range(present, 0, -1)), changed, horizon)


def least_distance(system, task_number, way_number, *, horizon):
    """Return the least distance of the way that keeps the system safe, or None."""
    task = system.task_at(task_number)
    if not 0 <= way_number < len(task.ways):
        raise UnknownNumber(way_number)
    source, target, present = task.ways[way_number]

    def changed(distance):
        return system.with_task(task_number, _with_way(task, way_number, (source, target, distance)))

    return _last_good(list(range(present, 0, -1)), changed, horizon)


def spare_capacity(system, *, horizon):
    """Return the greatest amount that every capacity can spare so that the system is safe, or None."""
    def changed(amount):
        return system.with_table([units - amount for units in system.table])

    return _last_good(list(range(min(system.table) + 1)), changed, horizon)


def with_kind(task, number, kind):
    """Return the task with this kind in the place of the kind of this number."""
    kinds = list(task.kinds)
    kinds[number] = kind
    return Task(task.name, kinds=kinds, ways=task.ways)


def _with_way(task, number, way):
    """Return the task with this way in the place of the way of this number."""
    ways = list(task.ways)
    ways[number] = way
    return Task(task.name, kinds=task.kinds, ways=ways)


def _last_good(numbers, changed, horizon):
    """Return the last number before the trials of the changed systems fail, or None if the first one fails."""
    if _fails(changed(numbers[0]), horizon):
        return None
    # Each number asks for at least as much, or offers at most as much, as the one before it. So behind
    # the first number whose trial fails all fail, and the place of the last good one is found by halves.
    good = 0
    bad = len(numbers)
    while bad - good > 1:
        middle = (good + bad) // 2
        if _fails(changed(numbers[middle]), horizon):
            bad = middle
        else:
            good = middle
    if trial(changed(numbers[good]), horizon=horizon) == "undecided":
        raise Undecided(horizon)
    return numbers[good]


def _fails(system, horizon):
    """True if the trial of the system fails."""
    return first_overfull(system, horizon=horizon) is not None
