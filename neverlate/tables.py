"""Tables: repeated, rotated, joined and compared."""

from math import lcm

from neverlate.supply import least_supplies


def repeated(table, times):
    """Return the table so many times in a row."""
    return list(table) * times


def rotated(table, by):
    """Return the table whose slot 0 is the slot `by` of the given one."""
    first = by % len(table)
    return list(table[first:]) + list(table[:first])


def common_length(one, other):
    """Return the least common multiple of the lengths of both tables."""
    return lcm(len(one), len(other))


def common(one, other):
    """Return both tables, repeated to the common length."""
    slots = common_length(one, other)
    return (repeated(one, slots // len(one)), repeated(other, slots // len(other)))


def joined(one, other):
    """Return the sums of the capacities, slot by slot."""
    first, second = common(one, other)
    return [units + more for units, more in zip(first, second)]


def reduced(one, other):
    """Return the capacities of the first table minus those of the second one, but not less than 0."""
    first, second = common(one, other)
    return [max(0, units - less) for units, less in zip(first, second)]


def shortest(table):
    """Return the shortest table that is alike to the table."""
    slots = len(table)
    for part in range(1, slots):
        if slots % part == 0 and repeated(table[:part], slots // part) == list(table):
            return list(table[:part])
    return list(table)


def are_alike(one, other):
    """Return True if both tables have the same capacity in every slot, without end."""
    return shortest(one) == shortest(other)


def are_rotations(one, other):
    """Return True if some rotation of the one is alike to the other."""
    return _first_rotation(shortest(one)) == _first_rotation(shortest(other))


def least_rotation(table):
    """Return the least number by which the table is rotated to the first one of its rotations."""
    rotations = [rotated(table, by) for by in range(len(table))]
    return rotations.index(min(rotations))


def first_shortage(one, other):
    """Return the least length for which the least supply of `one` is less than that of `other`, or None."""
    # Behind the common length the least supplies grow by the same sums again. If those of `one` grow by
    # less, there is a shortage at the common length already.
    slots = common_length(one, other)
    pairs = list(zip(least_supplies(one, slots), least_supplies(other, slots)))
    for length, (units, wanted) in enumerate(pairs):
        if units < wanted:
            return length
    return None


def dominates(one, other):
    """Return True if for no length the least supply of `one` is less than that of `other`."""
    return first_shortage(one, other) is None


def supply_bound(table):
    """Return the supply bound (top, lack, bottom) of the table."""
    top = sum(table)
    bottom = len(table)
    # Behind a whole table the least supply and the top times the length grow by the same.
    lacks = [top * length - bottom * units for length, units in enumerate(least_supplies(table, bottom))]
    return (top, max(lacks), bottom)


def _first_rotation(table):
    """Return the first one of all rotations of the table, in the order of lists."""
    return rotated(table, least_rotation(table))
