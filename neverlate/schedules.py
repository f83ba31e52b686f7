"""Schedules: whether they are valid, and which jobs are late by them."""

from neverlate.edf import ends_by, first_late, job_costs
from neverlate.errors import InvalidSchedule
from neverlate.releases import all_jobs, check_releases
from neverlate.supply import capacity


def check_schedule(system, releases, slots):
    """Raise InvalidReleases or InvalidSchedule if the schedule is not valid for the releases."""
    check_releases(system, releases)
    needed = job_costs(system, releases)
    for number, slot in enumerate(slots):
        if not _are_served_jobs(releases, needed, number, slot):
            raise InvalidSchedule(number)
        if _units(slot) > capacity(system.table, number):
            raise InvalidSchedule(number)
        for task, release, units in slot:
            needed[(task, release)] -= units


def ends_of(system, releases, slots):
    """Return for each release the instant at which its job is done by the schedule, or None."""
    check_schedule(system, releases, slots)
    return ends_by(system, releases, slots)


def late_by(system, releases, slots):
    """Return the first late instant by the schedule, or None."""
    ends = ends_of(system, releases, slots)
    return first_late(all_jobs(system, releases), ends)


def keeps(system, releases, slots):
    """Return True if no job is late by the schedule."""
    return late_by(system, releases, slots) is None


def unused(system, slots):
    """Return the unused units of the slots, below zero where a slot serves too much."""
    return [capacity(system.table, number) - _units(slot) for number, slot in enumerate(slots)]


def _are_served_jobs(releases, needed, number, slot):
    """True if each tuple of the slot serves another job, released by then, with units that it needs."""
    seen = set()
    for task, release, units in slot:
        if (task, release) not in needed or (task, release) in seen:
            return False
        if releases[task][release][0] > number:
            return False
        if not 1 <= units <= needed[(task, release)]:
            return False
        seen.add((task, release))
    return True


def _units(slot):
    """Return the units of all tuples of the slot together."""
    return sum([entry[2] for entry in slot])
