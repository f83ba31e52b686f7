"""Supply: the units that the slots of a repeated table offer."""

from neverlate.ratio import make_ratio


def capacity(table, slot):
    """Return the capacity of the slot."""
    return table[slot % len(table)]


def supply_of_first(table, slots):
    """Return the supply from 0 to `slots`."""
    return supply(table, 0, slots)


def supply(table, start, end):
    """Return the supply from start to end."""
    if end <= start:
        return 0
    first_slot = start % len(table)
    rounds, rest = divmod(end - start, len(table))
    sums = _sums(table)
    return rounds * sum(table) + sums[first_slot + rest] - sums[first_slot]


def supplies(table, slots):
    """Return the supplies from 0 to the instants 0, 1, .., `slots`."""
    found = [0]
    for slot in range(slots):
        found.append(found[-1] + capacity(table, slot))
    return found


def least_supply(table, length):
    """Return the least supply of any window of the length."""
    return min(_windows(table, length))


def least_start(table, length):
    """Return the least start of a window of the length with the least supply."""
    windows = _windows(table, length)
    return windows.index(min(windows))


def least_supplies(table, length):
    """Return the least supplies of the lengths 0, 1, .., `length`."""
    slots = len(table)
    sums = _sums(table)
    found = []
    for part in range(min(slots, length + 1)):
        found.append(min([sums[start + part] - sums[start] for start in range(slots)]))
    for longer in range(slots, length + 1):
        found.append(found[longer - slots] + sums[slots])
    return found


def table_share(table):
    """Return the mean capacity of the slots of the table."""
    return make_ratio(sum(table), len(table))


def first_end(table, start, wanted):
    """Return the least instant such that the supply from start to it is at least `wanted`, or None."""
    if wanted == 0:
        return start
    total = sum(table)
    if total == 0:
        return None
    # Units and slots are counted from the beginning of the round of the table in which start lies.
    sums = _sums(table)
    first_slot = start % len(table)
    units = sums[first_slot] + wanted
    rounds = (units - 1) // total
    slots = 0
    while sums[slots] < units - rounds * total:
        slots += 1
    return start - first_slot + rounds * len(table) + slots


def _sums(table):
    """Return the supplies from 0 to the instants 0, 1, .., 2 * len(table)."""
    # With two rounds, each window of at most a round that starts in the first one ends in the list.
    sums = [0]
    for units in list(table) + list(table):
        sums.append(sums[-1] + units)
    return sums


def _windows(table, length):
    """Return the supplies of the windows of the length from the starts 0, 1, .., len(table) - 1."""
    # Every later window has the supply of one of these.
    rounds, rest = divmod(length, len(table))
    whole = rounds * sum(table)
    sums = _sums(table)
    return [whole + sums[start + rest] - sums[start] for start in range(len(table))]
