"""Loads, the linear bound of a system, and the horizon that follows from it."""

from neverlate.circuits import share
from neverlate.ratio import compare_ratios, sum_ratios
from neverlate.supply import table_share
from neverlate.weights import linear_bound


def compare_load(system):
    """Return -1, 0 or 1 if the shares of the tasks are less than, equal to or greater than that of the table."""
    return compare_ratios(sum_ratios([share(task) for task in system.tasks]), table_share(system.table))


def system_bound(system):
    """Return the linear bound (top, extra, bottom) of the system."""
    return joined_bound([linear_bound(task) for task in system.tasks])


def decisive_horizon(system):
    """Return the decisive horizon of the system, or None."""
    return horizon_for(system_bound(system), system.table)


def joined_bound(bounds):
    """Return the linear bound of tasks that have these linear bounds."""
    bottom = 1
    for bound in bounds:
        bottom *= bound[2]
    top = sum([bound[0] * (bottom // bound[2]) for bound in bounds])
    extra = sum([bound[1] * (bottom // bound[2]) for bound in bounds])
    return (top, extra, bottom)


def horizon_for(bound, table):
    """Return the decisive horizon of a linear bound and a table, or None."""
    top, extra, bottom = bound
    slots = len(table)
    units = sum(table)
    gain = units * bottom - top * slots
    if gain <= 0:
        return None
    loss = extra * slots + units * bottom * (slots - 1)
    if loss == 0:
        return slots - 1
    return slots - 1 + (loss - 1) // gain
