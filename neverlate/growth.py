"""Growing together: how far the costs of two kinds can grow before a job can be late."""

from neverlate.demand import joint_demands
from neverlate.errors import InvalidSystem, Undecided
from neverlate.gives import with_kind
from neverlate.misses import is_decided
from neverlate.rules import MOST_UNITS
from neverlate.supply import supplies


class CostPairs:
    """The pairs of costs of two kinds of a system, and which of them are reachable up to a horizon."""

    def __init__(self, system, first, second, horizon):
        # The two kinds are tuples (task number, kind number).
        self.system = system
        self.first = first
        self.second = second
        self.horizon = horizon
        self.touched = sorted({first[0], second[0]})
        self.room = _room_left(system, self.touched, horizon)

    def least(self):
        """Return the present costs."""
        return (self._present(self.first), self._present(self.second))

    def with_costs(self, one, other):
        """Return the system in which the first kind has the one cost and the second kind the other one."""
        return _with_cost(_with_cost(self.system, self.first, one), self.second, other)

    def reaches(self, one, other):
        """True if the pair is reachable."""
        changed = self.with_costs(one, other)
        wanted = joint_demands([changed.tasks[number] for number in self.touched], self.horizon)
        return all([units <= room for units, room in zip(wanted, self.room)])

    def fall(self, one, other):
        """Return the greatest second cost that is reachable with the one cost.

        The other cost is not reachable with it, the present one is.
        """
        def fails(less):
            return not self.reaches(one, other - less)

        return other - 1 - _furthest(fails, other - self._present(self.second))

    def rise(self, one, other):
        """Return the greatest first cost that is reachable with the other cost; the one cost is."""
        def holds(more):
            return self.reaches(one + more, other)

        return one + _furthest(holds, MOST_UNITS - one)

    def _present(self, place):
        task_number, kind_number = place
        return self.system.tasks[task_number].kinds[kind_number][1]


def joint_costs(system, first, second, *, horizon):
    """Return the greatest pairs of costs of both kinds with which no job is ever late, the first costs ascending."""
    places = [(number, system.task_at(number).kind_number(name)) for number, name in (first, second)]
    if places[0] == places[1]:
        raise InvalidSystem("both are the same kind")
    pairs = CostPairs(system, places[0], places[1], horizon)
    found = _greatest_pairs(pairs)
    for one, other in found:
        # No window up to the horizon is overfull with a reachable pair, so its trial does not fail.
        if not is_decided(pairs.with_costs(one, other), horizon=horizon):
            raise Undecided(horizon)
    return found


def _greatest_pairs(pairs):
    """Return the greatest pairs in ascending order of the first cost."""
    one, least = pairs.least()
    other = MOST_UNITS + 1
    found = []
    # A greater first cost leaves less to the second one, so each pair has a smaller second cost than the last.
    while one <= MOST_UNITS and pairs.reaches(one, least):
        other = pairs.fall(one, other)
        one = pairs.rise(one, other)
        found.append((one, other))
        one += 1
    return found


def _with_cost(system, place, cost):
    """Return the system in which the kind at the place has this cost."""
    task_number, kind_number = place
    task = system.tasks[task_number]
    name, _, deadline = task.kinds[kind_number]
    return system.with_task(task_number, with_kind(task, kind_number, (name, cost, deadline)))


def _room_left(system, numbers, horizon):
    """Return for each length up to the horizon how much the tasks of these numbers may ask for together."""
    slots = len(system.table)
    offered = supplies(system.table, horizon)
    others = [task for number, task in enumerate(system.tasks) if number not in numbers]
    room = []
    for length, units in enumerate(joint_demands(others, horizon)):
        # A window behind the first round of the table has the supply of one that ends a round earlier.
        count = min(slots, horizon - length + 1)
        room.append(min([offered[start + length] - offered[start] for start in range(count)]) - units)
    return room


def _furthest(holds, most):
    """Return the greatest number up to the most for which `holds` is True; it is for 0, and for none behind it."""
    found = 0
    step = 1
    while found + step <= most and holds(found + step):
        found += step
        step *= 2
    while step > 1:
        step //= 2
        if found + step <= most and holds(found + step):
            found += step
    return found
