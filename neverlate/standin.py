"""Tasks in the place of other tasks: whether one task never asks for more than another one."""

from neverlate.circuits import circuit_mean, circuits, share
from neverlate.demand import demand, demands, rows
from neverlate.errors import Undecided
from neverlate.tasks import System, Task


class Part:
    """A length, the cost of a job and a table that show where a task asks for more than another one."""

    def __init__(self, length, cost, table):
        self.length = length
        self.cost = cost
        self.table = list(table)


class Comparison:
    """Compares the rows of two tasks up to a horizon, and tells which steps the tasks pass there."""

    def __init__(self, one, other, horizon):
        self.one = one
        self.other = other
        self.horizon = horizon
        self.one_rows = rows(one, horizon)
        self.other_rows = rows(other, horizon)
        self.excess = _first_greater([max(row) for row in self.one_rows], [max(row) for row in self.other_rows])
        self.lasting = lasting_kinds(other)
        self.steps = [_steps(other, kind[0]) for kind in other.kinds]
        lengths = list(range(horizon + 1))
        # From these lengths up to the horizon every length is led, and every lasting kind goes on.
        self.led_from = _true_from([self._is_led_at(length) for length in lengths])
        self.going_from = _true_from([self._goes_on_at(length) for length in lengths])

    def least_step(self):
        """Return the least step that the tasks pass, or None."""
        for step in range(1, self._longest_step() + 1):
            if self.passes(step):
                return step
        return None

    def passes(self, step):
        """True if the tasks pass the step."""
        if self.excess is not None or not 1 <= step <= self._longest_step():
            return False
        first = self.horizon - step + 1
        growth = self._growth(step)
        if self.led_from > first or (growth != 0 and self.going_from > first):
            return False
        return (
            _grow_by(self.other_rows, growth, step, self.other.longest_distance, self.lasting)
            and _grow_by(self.one_rows, growth, step, self.one.longest_distance, [])
        )

    def _longest_step(self):
        """Return the greatest step for which the horizon has room, below 1 if it has room for none."""
        return self.horizon - max([task.latest_deadline + task.longest_distance for task in (self.one, self.other)])

    def _growth(self, step):
        """Return by how much the number of the first lasting kind grows within the step."""
        if self.other.longest_distance == 0:
            return 0
        kind = self.lasting[0]
        return self.other_rows[self.horizon][kind] - self.other_rows[self.horizon - step][kind]

    def _is_led_at(self, length):
        """True if lasting kinds need no other ones to go on, and one of them asks for as much as the one task."""
        every = list(range(len(self.other.kinds)))
        for kind in self.lasting:
            if self._best_behind(kind, length, every) != self._best_behind(kind, length, self.lasting):
                return False
        return max(self.one_rows[length]) <= max([self.other_rows[length][kind] for kind in self.lasting])

    def _goes_on_at(self, length):
        """True if something can come behind each lasting kind that has work within the length."""
        return all([self._best_behind(kind, length, self.lasting) > 0 for kind in self.lasting])

    def _best_behind(self, kind, length, targets):
        """Return the greatest number, for the rest of the length, to which a way from the kind leads, or 0."""
        numbers = [0]
        for target, distance in self.steps[kind]:
            if target in targets and distance <= length:
                numbers.append(self.other_rows[length - distance][target])
        return max(numbers)


def first_excess(one, other, *, horizon):
    """Return the least length for which the one task asks for more than the other one, or None."""
    return _first_greater(demands(one, horizon), demands(other, horizon))


def lasting_kinds(task):
    """Return the numbers of the kinds from which a path leads to a circuit whose mean is the share."""
    every = circuits(task)
    if not every:
        return list(range(len(task.kinds)))
    greatest = share(task)
    best = [circuit for circuit in every if circuit_mean(task, circuit) == greatest]
    lasting = {task.ways[way][0] for circuit in best for way in circuit}
    # A path needs fewer ways than there are kinds, and each round takes in at least one way more.
    for _ in task.kinds:
        for source, target, _ in task.ways:
            if target in lasting:
                lasting.add(source)
    return [number for number, kind in enumerate(task.kinds) if kind[0] in lasting]


def check_stand_in(one, other, *, step, horizon):
    """Return True if the tasks pass the step at the horizon."""
    return Comparison(one, other, horizon).passes(step)


def stand_in_step(one, other, *, horizon):
    """Return the least step that the tasks pass at the horizon, or None."""
    return Comparison(one, other, horizon).least_step()


def may_stand(one, other, *, horizon):
    """Return None if the one task may stand in the place of the other one, or the part that shows why not."""
    comparison = Comparison(one, other, horizon)
    if comparison.excess is not None:
        return part_at(other, comparison.excess)
    if comparison.least_step() is None:
        raise Undecided(horizon)
    return None


def splittings(task, length):
    """Return the splittings of the lengths 0, 1, .., `length`."""
    wanted = demands(task, length)
    found = [0]
    for whole in range(1, length + 1):
        found.append(max([wanted[first] + found[whole - first] for first in range(1, whole + 1)]))
    return found


def part_at(task, length):
    """Return the part of the task for the length."""
    sums = splittings(task, length)
    cost = max(1, sums[length])
    table = [sums[end] - sums[end - 1] for end in range(1, length)]
    table.append(demand(task, length) + cost - sums[length - 1])
    greatest_cost = max([kind[1] for kind in task.kinds])
    table.append(2 * greatest_cost * (length + 1) + cost)
    return Part(length, cost, table)


def part_system(task, part):
    """Return the system of the part: the task and a job beside it, with the table of the part."""
    name = "job2" if task.name == "job" else "job"
    job = Task(name, kinds=[("job", part.cost, part.length)])
    return System([task, job], table=part.table)


def _steps(task, kind_name):
    """Return the tuples (target number, distance) of the ways from the kind."""
    return [(task.kind_number(target), distance) for target, distance in task.ways_from(kind_name)]


def _first_greater(numbers, limits):
    """Return the first place at which the number is greater than the limit, or None."""
    for place, (number, limit) in enumerate(zip(numbers, limits)):
        if number > limit:
            return place
    return None


def _true_from(flags):
    """Return the least place from which on all flags are True."""
    place = len(flags)
    while place > 0 and flags[place - 1]:
        place -= 1
    return place


def _grow_by(found, growth, step, count, exact):
    """True if in the last rows, so many as the count, the numbers have grown at most by this within the step.

    Those of the exact kinds have grown just by this.
    """
    end = len(found)
    for late_row, early_row in zip(found[end - count:], found[end - count - step:end - step]):
        for kind, (late, early) in enumerate(zip(late_row, early_row)):
            if late - early > growth or (kind in exact and late - early < growth):
                return False
    return True
