"""Waiting work: the most that can be released and not done, whatever the deadlines are."""

from neverlate.demand import system_demands
from neverlate.errors import Undecided
from neverlate.misses import heaviest_within
from neverlate.rounds import rounds
from neverlate.supply import supplies
from neverlate.tasks import System, Task


class Backlog:
    """Work that waits at an instant, and releases from start on for which it does."""

    def __init__(self, work, instant, start, releases):
        self.work = work
        self.instant = instant
        self.start = start
        self.releases = [list(row) for row in releases]


def most_waiting(system, *, horizon):
    """Return the Backlog with the most work that can wait."""
    eager = _eager(system)
    if eager.tasks and rounds(eager, horizon=horizon) is None:
        raise Undecided(horizon)
    work, end, start = _greatest_excess(eager, horizon)
    return Backlog(work, end, start, heaviest_within(eager, start, end))


def _eager(system):
    """Return the system with the deadline 1 for every kind."""
    tasks = [
        Task(task.name, kinds=[(name, cost, 1) for name, cost, _ in task.kinds], ways=task.ways)
        for task in system.tasks
    ]
    return System(tasks, table=system.table)


def _greatest_excess(eager, horizon):
    """Return the greatest excess and its window as (excess, end, start), all 0 without an excess above 0."""
    slots = len(eager.table)
    demands = system_demands(eager, horizon)
    offered = supplies(eager.table, horizon)
    best = (0, 0, 0)
    for end in range(1, horizon + 1):
        # A window behind the first round of the table has the excess of one that ends a round earlier.
        excess, start = max([
            (demands[end - start] - offered[end] + offered[start], start) for start in range(min(end, slots))
        ])
        if excess > best[0]:
            best = (excess, end, start)
    return best
