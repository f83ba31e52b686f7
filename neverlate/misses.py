"""Overfull windows, and the first instant at which a job can be late."""

from neverlate.demand import heaviest, system_demands
from neverlate.errors import InvalidReleases, Undecided
from neverlate.horizons import decisive_horizon
from neverlate.releases import check_releases, shift, system_work_within
from neverlate.rounds import rounds
from neverlate.supply import supplies, supply


class Miss:
    """An overfull window from start to instant, and releases that make it so."""

    def __init__(self, instant, start, releases):
        self.instant = instant
        self.start = start
        self.releases = [list(row) for row in releases]


def is_overfull(system, *, start, length):
    """Return True if the window of this length is overfull."""
    return system_demands(system, length)[length] > supply(system.table, start, start + length)


def first_overfull(system, *, horizon):
    """Return the first overfull window up to the horizon as the tuple (end, start), or None."""
    slots = len(system.table)
    demands = system_demands(system, horizon)
    offered = supplies(system.table, horizon)
    for end in range(1, horizon + 1):
        # Where a window behind the first round of the table is overfull, one that ends a round earlier is, too.
        found = [
            start for start in range(min(end, slots)) if demands[end - start] > offered[end] - offered[start]
        ]
        if found:
            return (end, found[-1])
    return None


def is_decided(system, *, horizon):
    """Return True if the system is decided at the horizon."""
    if not system.tasks:
        return True
    decisive = decisive_horizon(system)
    if decisive is not None and decisive <= horizon:
        return True
    return rounds(system, horizon=horizon) is not None


def first_miss(system, *, horizon):
    """Return the first miss up to the horizon, or None if no job is ever late."""
    window = first_overfull(system, horizon=horizon)
    if window is not None:
        end, start = window
        return Miss(end, start, heaviest_within(system, start, end))
    if not is_decided(system, horizon=horizon):
        raise Undecided(horizon)
    return None


def heaviest_within(system, start, end):
    """Return the heaviest releases of each task for the length of the window, from its start on."""
    return [shift(heaviest(task, end - start), start) for task in system.tasks]


def check_miss(system, miss):
    """Return True if the miss is right for the system."""
    if not 0 <= miss.start < miss.instant or len(miss.releases) != len(system.tasks):
        return False
    try:
        check_releases(system, miss.releases)
    except InvalidReleases:
        return False
    needed = system_work_within(system, miss.releases, start=miss.start, end=miss.instant)
    return needed > supply(system.table, miss.start, miss.instant)
