"""Numbers about an outcome: how long jobs take, when the processor is busy, what is left to do."""

from neverlate.releases import due
from neverlate.supply import capacity


def response_times(releases, outcome):
    """Return for each release the time from it to the end of its job, or None if the job is not done."""
    return [
        [None if end is None else end - release[0] for release, end in zip(row, ends)]
        for row, ends in zip(releases, outcome.ends)
    ]


def latenesses(system, releases, outcome):
    """Return for each release the end of its job minus its due, or None if the job is not done."""
    return [
        [None if end is None else end - due(task, release) for release, end in zip(row, ends)]
        for task, row, ends in zip(system.tasks, releases, outcome.ends)
    ]


def greatest_lateness(system, releases, outcome):
    """Return the greatest lateness, or None if a job is not done or there are no releases."""
    found = [lateness for row in latenesses(system, releases, outcome) for lateness in row]
    if None in found:
        return None
    return max(found, default=None)


def interruptions(outcome):
    """Return the number of times that a job which is not done is served in a slot and not in the next one."""
    count = 0
    for number, (slot, after) in enumerate(zip(outcome.slots, outcome.slots[1:])):
        going_on = {(task, release): True for task, release, _ in after}
        for task, release, _ in slot:
            if outcome.ends[task][release] != number + 1 and (task, release) not in going_on:
                count += 1
    return count


def busy_intervals(outcome):
    """Return the tuples (start, end) of the longest intervals in whose slots something is served."""
    found = []
    start = None
    # The empty slot behind the last one ends the last interval.
    for number, slot in enumerate(outcome.slots + [[]]):
        if slot and start is None:
            start = number
        if not slot and start is not None:
            found.append((start, number))
            start = None
    return found


def units_by_task(outcome):
    """Return the units that the jobs of each task get in all slots together."""
    totals = [0] * len(outcome.ends)
    for slot in outcome.slots:
        for task, _, units in slot:
            totals[task] += units
    return totals


def unused_total(system, outcome):
    """Return the sum of the capacities of all slots minus all units in them."""
    offered = [capacity(system.table, number) for number in range(len(outcome.slots))]
    return sum(offered) - sum(_served(outcome))


def full_slots(system, outcome):
    """Return the numbers of the slots whose capacity is not 0 and used up."""
    found = []
    for number, units in enumerate(_served(outcome)):
        offered = capacity(system.table, number)
        if offered != 0 and units == offered:
            found.append(number)
    return found


def backlog(system, releases, outcome):
    """Return the backlogs at the instants 0, 1, .. up to the number of slots."""
    told = {}
    for task, row in zip(system.tasks, releases):
        for time, kind in row:
            told[time] = told.get(time, 0) + task.cost(kind)
    # What is served in a slot is missing at the instant behind it.
    served = [0] + _served(outcome)
    found = []
    left = 0
    for instant, units in enumerate(served):
        left += told.get(instant, 0) - units
        found.append(left)
    return found


def _served(outcome):
    """Return the units of each slot."""
    return [sum([entry[2] for entry in slot]) for slot in outcome.slots]
