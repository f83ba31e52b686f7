"""Earliest deadline first: which job each slot serves, and who is late."""

from heapq import heappop, heappush

from neverlate.releases import all_jobs, check_releases, last_due
from neverlate.supply import capacity


class Outcome:
    """The outcome of a run: its slots, the ends of the jobs and the first late instant."""

    def __init__(self, slots, ends, late):
        self.slots = [list(slot) for slot in slots]
        self.ends = [list(row) for row in ends]
        self.late = late

    @property
    def on_time(self):
        """True if no job is late."""
        return self.late is None

    def served(self, task, release):
        """Return the tuples (slot, units) of the slots in which this job is served."""
        found = []
        for number, slot in enumerate(self.slots):
            for served_task, served_release, units in slot:
                if served_task == task and served_release == release:
                    found.append((number, units))
        return found


class JobQueue:
    """The jobs that are released and not done."""

    def __init__(self):
        # A heap of jobs in the form of `all_jobs`, with the units that they still need as their costs.
        # The order of these tuples is that of earliest deadline first.
        self.jobs = []

    def copied(self):
        """Return a queue with the same jobs that goes its own way."""
        other = JobQueue()
        other.jobs = list(self.jobs)
        return other

    def needs(self):
        """Return the tuples (task, release, units that it still needs) of the jobs, in their order."""
        return [(task, release, needed) for _, _, task, release, needed in sorted(self.jobs)]

    def least_due(self):
        """Return the least due of the jobs, or None without jobs."""
        return self.jobs[0][0] if self.jobs else None

    def tell(self, job):
        """Take a job that is released."""
        heappush(self.jobs, job)

    def serve(self, room):
        """Serve a slot of this capacity. Return its tuples (task, release, units)."""
        slot = []
        while self.jobs and room > 0:
            due, time, task, release, needed = heappop(self.jobs)
            units = min(room, needed)
            slot.append((task, release, units))
            room -= units
            if needed > units:
                heappush(self.jobs, (due, time, task, release, needed - units))
        return slot


def run(system, releases):
    """Return the outcome of earliest deadline first."""
    return outcome_by(system, releases, JobQueue())


def outcome_by(system, releases, queue):
    """Return the outcome of serving the releases in the order of the queue, which is empty."""
    check_releases(system, releases)
    jobs = all_jobs(system, releases)
    arrivals = {}
    for job in jobs:
        arrivals.setdefault(job[1], []).append(job)
    slots = []
    for time in range(last_due(system, releases)):
        for job in arrivals.get(time, []):
            queue.tell(job)
        slots.append(queue.serve(capacity(system.table, time)))
    ends = ends_by(system, releases, slots)
    return Outcome(slots, ends, first_late(jobs, ends))


def job_costs(system, releases):
    """Return the cost of each job under its tuple (task number, release number)."""
    return {(task, release): cost for _, _, task, release, cost in all_jobs(system, releases)}


def ends_by(system, releases, slots):
    """Return for each release the instant at which these slots have done its job, or None."""
    needed = job_costs(system, releases)
    ends = [[None] * len(row) for row in releases]
    for number, slot in enumerate(slots):
        for task, release, units in slot:
            needed[(task, release)] -= units
            if needed[(task, release)] == 0:
                ends[task][release] = number + 1
    return ends


def first_late(jobs, ends):
    """Return the first late instant of jobs in ascending order that are done at these ends, or None."""
    for due, _, task, release, _ in jobs:
        end = ends[task][release]
        if end is None or end > due:
            return due
    return None


def crowded(system, releases):
    """Return the crowded window (start, end) of the releases, or None."""
    end = run(system, releases).late
    if end is None:
        return None
    needed = {}
    for due, time, _, _, cost in all_jobs(system, releases):
        if due <= end:
            needed[time] = needed.get(time, 0) + cost
    start = end
    spare = 0
    # Some window is crowded if a job is late (point 35), so this ends before time 0.
    while spare >= 0:
        start -= 1
        spare += capacity(system.table, start) - needed.get(start, 0)
    return (start, end)
