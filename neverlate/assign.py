"""Assignments: tasks on several processors that have a table each."""

from neverlate.errors import Undecided, UnknownName, UnknownNumber
from neverlate.gives import trial
from neverlate.misses import first_overfull
from neverlate.tasks import System


class Assignment:
    """Gives each task to a processor."""

    def __init__(self, tasks, tables, processors):
        self.tasks = tuple(tasks)
        self.tables = tuple([tuple(table) for table in tables])
        self.processors = tuple(processors)

    @property
    def used(self):
        """The number of processors that have a task."""
        return len(set(self.processors))

    def task_numbers(self, processor):
        """Return the numbers of the tasks of the processor in ascending order."""
        self._check_processor(processor)
        return [number for number, own in enumerate(self.processors) if own == processor]

    def system(self, processor):
        """Return the system of the processor."""
        numbers = self.task_numbers(processor)
        return System([self.tasks[number] for number in numbers], table=self.tables[processor])

    def systems(self):
        """Yield the systems of all processors in their order."""
        for processor in range(len(self.tables)):
            yield self.system(processor)

    def processor_of(self, task_name):
        """Return the number of the processor of the task with this name."""
        return self.processors[self._task_number(task_name)]

    def moved(self, task_name, processor):
        """Return the assignment in which the task with this name has this processor."""
        number = self._task_number(task_name)
        self._check_processor(processor)
        processors = list(self.processors)
        processors[number] = processor
        return Assignment(self.tasks, self.tables, processors)

    def _task_number(self, task_name):
        for number, task in enumerate(self.tasks):
            if task.name == task_name:
                return number
        raise UnknownName(task_name)

    def _check_processor(self, processor):
        # Python would take a negative number for one that counts from the end.
        if not 0 <= processor < len(self.tables):
            raise UnknownNumber(processor)


class Refusals:
    """Tells for which tasks a processor has a miss, and searches for each of them once."""

    def __init__(self, horizon):
        self.horizon = horizon
        self.known = {}

    def refuses(self, assignment, processor):
        """True if the system of the processor has a miss up to the horizon."""
        # Processors with the same table have the same misses.
        key = (assignment.tables[processor], tuple(assignment.task_numbers(processor)))
        if key not in self.known:
            window = first_overfull(assignment.system(processor), horizon=self.horizon)
            self.known[key] = window is not None
        return self.known[key]

    def refuses_any(self, assignment):
        """True if the assignment is refused."""
        return any([self.refuses(assignment, processor) for processor in range(len(assignment.tables))])


def is_safe(assignment, *, horizon):
    """Return True if the assignment is safe, False if it is refused."""
    trials = [trial(system, horizon=horizon) for system in assignment.systems()]
    if "fails" in trials:
        return False
    if "undecided" in trials:
        raise Undecided(horizon)
    return True


def assign(tasks, tables, *, horizon):
    """Return the first assignment that is not refused, or None if all are refused."""
    found = _first_kept(tasks, Assignment([], tables, []), Refusals(horizon))
    if found is not None:
        # It is not refused. This raises Undecided if it is not safe either.
        is_safe(found, horizon=horizon)
    return found


def fewest_processors(tasks, table, *, horizon):
    """Return the first assignment to as few processors with this table as can be, or None."""
    for count in range(1, max(1, len(tasks)) + 1):
        found = assign(tasks, [table] * count, horizon=horizon)
        if found is not None:
            return found
    return None


def safe_moves(assignment, *, horizon):
    """Return the single moves (task name, processor) behind which the assignment is not refused."""
    refusals = Refusals(horizon)
    found = []
    for task, own in zip(assignment.tasks, assignment.processors):
        for processor in range(len(assignment.tables)):
            if processor != own and not refusals.refuses_any(assignment.moved(task.name, processor)):
                found.append((task.name, processor))
    return found


def _first_kept(tasks, begun, refusals):
    """Return the first assignment of all tasks that begins like this one and is not refused, or None."""
    count = len(begun.tasks)
    if count == len(tasks):
        return begun
    for processor in range(len(begun.tables)):
        longer = Assignment(tasks[:count + 1], begun.tables, begun.processors + (processor,))
        # More tasks ask for more: a processor that is refused stays so, whatever the other tasks get.
        if refusals.refuses(longer, processor):
            continue
        found = _first_kept(tasks, longer, refusals)
        if found is not None:
            return found
    return None
