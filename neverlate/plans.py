"""Planning tables: the least capacities with which no job can be late."""

from neverlate.demand import joint_demands, system_demands
from neverlate.errors import Undecided
from neverlate.gives import trial
from neverlate.misses import first_overfull
from neverlate.supply import supplies
from neverlate.tasks import System


class Plan:
    """A table, the sum of its capacities, and lengths which show that no smaller sum is enough."""

    def __init__(self, total, table, lengths):
        self.total = total
        self.table = list(table)
        self.lengths = list(lengths)


def plan_table(tasks, length, *, horizon):
    """Return the plan of a table of this length with the least sum of capacities."""
    wanted = joint_demands(tasks, horizon)
    total = _least_total(wanted, length)
    needs = [need for need, _ in _best_chains(wanted, length, total)]
    table = [after - before for before, after in zip(needs, needs[1:] + [total])]
    if trial(System(tasks, table=table), horizon=horizon) == "undecided":
        raise Undecided(horizon)
    lengths = []
    if total > 0:
        _, lengths = _best_chains(wanted, length, total - 1)[0]
    return Plan(total, table, lengths)


def check_plan(tasks, length, plan):
    """Return True if the lengths of the plan show that no smaller total is enough."""
    if len(plan.table) != length or sum(plan.table) != plan.total:
        return False
    if plan.total == 0:
        return True
    if not plan.lengths or min(plan.lengths) < 1:
        return False
    count, rest = divmod(sum(plan.lengths), length)
    wanted = joint_demands(tasks, max(plan.lengths))
    return rest == 0 and sum([wanted[part] for part in plan.lengths]) > count * (plan.total - 1)


def trim_table(system, *, horizon):
    """Return the table with each capacity lowered, slot by slot, as far as no job can be late, or None."""
    if first_overfull(system, horizon=horizon) is not None:
        return None
    wanted = system_demands(system, horizon)
    table = list(system.table)
    for slot in range(len(system.table)):
        table[slot] -= _spare_units(table, slot, wanted)
    if trial(system.with_table(table), horizon=horizon) == "undecided":
        raise Undecided(horizon)
    return table


def _least_total(wanted, slots):
    """Return the least total that is enough for tasks with these joint demands."""
    low = 0
    # Each length is at least 1, so a chain has at most as many lengths as it covers slots.
    high = slots * max(wanted)
    while low < high:
        middle = (low + high) // 2
        need, _ = _best_chains(wanted, slots, middle)[0]
        if need > 0:
            low = middle + 1
        else:
            high = middle
    return low


def _best_chains(wanted, slots, total):
    """Return for each instant the tuple (need, lengths) of a chain to it with the greatest need.

    The chains have at most as many lengths as there are slots. If some chain to the instant 0 has a need
    above 0, such a short one has, too: a longer one passes an instant twice, and falls into two at it. If
    none has, longer chains need no more at any instant.
    """
    best = _best_lengths(wanted, slots, total)
    chains = [None] * slots
    chains[0] = (0, [])
    for _ in range(slots):
        chains = _lengthened(chains, best, total)
    return chains


def _best_lengths(wanted, slots, total):
    """Return (need, length) of the best length for each number of slots that it goes on in the table."""
    found = []
    for slot in range(slots):
        needs = [
            (wanted[length] - total * (length // slots), length)
            for length in range(slot, len(wanted), slots) if length > 0
        ]
        if needs:
            found.append(max(needs))
    return found


def _lengthened(chains, best, total):
    """Return the best ones of these chains and of all chains that have one length more."""
    longer = list(chains)
    for instant, chain in enumerate(chains):
        if chain is None:
            continue
        need, lengths = chain
        for more, length in best:
            wraps, target = divmod(instant + length % len(chains), len(chains))
            whole = need + more - total * wraps
            if longer[target] is None or whole > longer[target][0]:
                longer[target] = (whole, lengths + [length])
    return longer


def _spare_units(table, slot, wanted):
    """Return by how much the capacity of the slot can be lowered so that no window becomes overfull.

    No window that ends at the horizon or earlier is overfull, and `wanted` has the demands up to it.
    """
    slots = len(table)
    horizon = len(wanted) - 1
    offered = supplies(table, horizon)
    spare = table[slot]
    for start in range(min(slots, horizon)):
        # Windows that end in one of these blocks have the slot in them once, twice, and so on.
        first_end = start + (slot - start) % slots + 1
        for count, low in enumerate(range(first_end, horizon + 1, slots), start=1):
            high = min(low + slots, horizon + 1)
            left = min([units - less for units, less in zip(offered[low:high], wanted[low - start:high - start])])
            spare = min(spare, (left - offered[start]) // count)
    return spare
