"""A processor that is told releases while time goes on."""

from neverlate.edf import JobQueue
from neverlate.errors import TooEarly
from neverlate.releases import due, earliest_next
from neverlate.supply import capacity


class Processor:
    """Serves the releases that it is told slot by slot, by earliest deadline first."""

    def __init__(self, system):
        self.system = system
        self.time = 0
        self.late = None
        self._told = [[] for _ in system.tasks]
        self._queue = JobQueue()

    @property
    def history(self):
        """The releases that the processor was told, one list for each task."""
        return [list(row) for row in self._told]

    def pending(self):
        """Return the tuples (task, release, units) of the jobs that are not done, in the order of their turn."""
        return self._queue.needs()

    def earliest(self, name, *, kind):
        """Return the earliest time of the kind of the task with this name, or None."""
        number = self.system.task_number(name)
        task = self.system.tasks[number]
        # A kind that the task does not have is an error, one to which no way leads is not.
        task.kind_number(kind)
        if not self._told[number]:
            return self.time
        times = {next_kind: max(self.time, time) for next_kind, time in earliest_next(task, self._told[number][-1])}
        return times.get(kind)

    def release(self, name, *, kind):
        """Tell a release of the kind of the task at the current time. Return its number."""
        time = self.earliest(name, kind=kind)
        if time is None or time > self.time:
            raise TooEarly(time)
        task_number = self.system.task_number(name)
        task = self.system.tasks[task_number]
        number = len(self._told[task_number])
        self._told[task_number].append((self.time, kind))
        self._queue.tell((due(task, (self.time, kind)), self.time, task_number, number, task.cost(kind)))
        return number

    def step(self):
        """Serve the slot that begins now. Return its tuples (task, release, units)."""
        slot = self._queue.serve(capacity(self.system.table, self.time))
        self.time += 1
        least_due = self._queue.least_due()
        if self.late is None and least_due is not None and least_due <= self.time:
            self.late = least_due
        return slot

    def walk(self, count):
        """Do so many steps and yield what each of them returns."""
        for _ in range(count):
            yield self.step()

    def forecast(self, count, *, told=()):
        """Return what the next steps would return if these releases were told first."""
        draft = self._copied()
        for name, kind in told:
            draft.release(name, kind=kind)
        return [draft.step() for _ in range(count)]

    def admits(self, name, *, kind):
        """Return True if a release of the kind can be told now and no job that is told is ever late then."""
        time = self.earliest(name, kind=kind)
        if time is None or time > self.time:
            return False
        draft = self._copied()
        draft.release(name, kind=kind)
        # Each job is done or late at the latest when its due has come, so this ends.
        while draft.late is None and draft._queue.jobs:
            draft.step()
        return draft.late is None

    def _copied(self):
        """Return a processor in the same state that goes its own way."""
        other = Processor(self.system)
        other.time = self.time
        other.late = self.late
        other._told = self.history
        other._queue = self._queue.copied()
        return other
