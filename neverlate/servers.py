"""Servers: tables that offer a budget in each period, and how much of one some tasks need."""

from neverlate.demand import joint_demands


def server_table(*, period, budget, offset=0, capacity=1):
    """Return the table of a server."""
    table = [0] * period
    for slot in range(offset, offset + budget):
        table[slot % period] = capacity
    return table


def server_supply(*, period, budget, length, capacity=1):
    """Return the least supply of a server for the length."""
    # A window with the least supply begins directly behind the slots of the budget.
    whole, rest = divmod(length, period)
    return capacity * (whole * budget + max(0, rest - (period - budget)))


def needed_capacity(tasks, *, horizon):
    """Return the least capacity that is enough for the tasks if each slot has it."""
    wanted = joint_demands(tasks, horizon)
    return max([_quotient_up(wanted[length], length) for length in range(1, horizon + 1)], default=0)


def needed_budget(tasks, *, period, horizon, capacity=1):
    """Return the least budget with which the server is enough for the tasks, or None."""
    wanted = joint_demands(tasks, horizon)
    for budget in range(period + 1):
        if _is_enough(wanted, period, budget, capacity):
            return budget
    return None


def longest_period(tasks, *, share, horizon, longest):
    """Return the longest period for which the share of it is budget enough for the tasks, or None."""
    top, bottom = share
    wanted = joint_demands(tasks, horizon)
    for period in range(longest, 0, -1):
        if _is_enough(wanted, period, _quotient_up(period * top, bottom), 1):
            return period
    return None


def _is_enough(wanted, period, budget, capacity):
    """True if for no length the server supplies less than wanted."""
    for length, units in enumerate(wanted):
        if server_supply(period=period, budget=budget, length=length, capacity=capacity) < units:
            return False
    return True


def _quotient_up(top, bottom):
    """Return the least integer that is not less than the fraction."""
    return -(-top // bottom)
