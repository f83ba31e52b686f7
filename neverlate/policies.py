"""Policies: the orders in which slots can serve the jobs, the earliest deadline first and others."""

from heapq import heappop, heappush

from neverlate.edf import outcome_by, run
from neverlate.errors import UnknownName
from neverlate.releases import check_releases

POLICIES = ("deadline", "fixed", "arrival", "laxity")


class TaskQueue:
    """The jobs that are released and not done; serves them in the order of their tasks, then of their releases."""

    def __init__(self):
        # A heap of tuples (rank, task, release, job).
        self.heap = []

    def rank(self, job):
        """Return the rank of the job. A class below this one ranks the jobs in another order."""
        return (job[2],)

    def tell(self, job):
        """Take a job in the form of `all_jobs`, with the units that it still needs as its cost."""
        heappush(self.heap, (self.rank(job), job[2], job[3], job))

    def serve(self, room):
        """Serve a slot of this capacity. Return its tuples (task, release, units)."""
        slot = []
        while self.heap and room > 0:
            due, time, task, release, needed = heappop(self.heap)[3]
            units = min(room, needed)
            slot.append((task, release, units))
            room -= units
            if needed > units:
                self.tell((due, time, task, release, needed - units))
        return slot


class FixedQueue(TaskQueue):
    """Serves the jobs of the tasks in a fixed order of the tasks."""

    def __init__(self, order):
        super().__init__()
        self.places = {task: place for place, task in enumerate(order)}

    def rank(self, job):
        """Return the rank of the job."""
        return (self.places[job[2]],)


class ArrivalQueue(TaskQueue):
    """Serves the jobs in the order of their release times."""

    def rank(self, job):
        """Return the rank of the job."""
        return (job[1],)


class LaxityQueue(TaskQueue):
    """Serves the jobs of the least laxity first."""

    def rank(self, job):
        """Return the rank of the job."""
        due, _, _, _, needed = job
        # The number of the slot is the same for all jobs, so these numbers order them as the laxities do.
        # They change only for a job that is served, which is told again then.
        return (due - needed, due)


def run_policy(system, releases, *, policy="deadline"):
    """Return the outcome of the policy with this name."""
    if policy not in POLICIES:
        raise UnknownName(policy)
    if policy == "fixed":
        return outcome_by(system, releases, TaskQueue())
    if policy == "arrival":
        return outcome_by(system, releases, ArrivalQueue())
    if policy == "laxity":
        return outcome_by(system, releases, LaxityQueue())
    return run(system, releases)


def run_fixed(system, releases, *, order):
    """Return the outcome of the policy of a fixed order of the tasks."""
    return outcome_by(system, releases, FixedQueue(order))


def late_by_policy(system, releases):
    """Return a tuple (policy, first late instant or None) for each policy."""
    return [(policy, run_policy(system, releases, policy=policy).late) for policy in POLICIES]


def fixed_order(system, releases):
    """Return the first fixed order of the tasks that keeps the releases, or None."""
    check_releases(system, releases)
    return _first_order(system, releases, (), {})


def _first_order(system, releases, order, known):
    """Return the first fixed order that begins like this one and keeps the releases, or None."""
    count = len(system.tasks)
    if len(order) == count:
        return order
    for number in range(count):
        if number in order:
            continue
        # What the tasks before it leave to a task does not depend on their order.
        key = (tuple(sorted(order)), number)
        if key not in known:
            known[key] = _keeps_first(system, releases, order + (number,))
        if known[key]:
            found = _first_order(system, releases, order + (number,), known)
            if found is not None:
                return found
    return None


def _keeps_first(system, releases, order):
    """True if no job of these tasks is late in this order; tasks behind them have no effect on them."""
    served = [row if number in order else [] for number, row in enumerate(releases)]
    return run_fixed(system, served, order=order).late is None
