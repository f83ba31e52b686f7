"""The rules that names, kinds, ways and tables keep."""

NAME_CHARACTERS = "abcdefghijklmnopqrstuvwxyz0123456789"
LONGEST_NAME = 12
MOST_UNITS = 1000
MOST_KINDS = 8
MOST_WAYS = 16
MOST_TASKS = 6
LONGEST_TABLE = 1001
MOST_CAPACITY = 1000000
GREATEST_HORIZON = 1000


def is_integer(value, low, high):
    """True if the value is an integer from low to high."""
    # Python takes True and False for integers; the program does not.
    return isinstance(value, int) and not isinstance(value, bool) and low <= value <= high


def is_name(value):
    """True if the value is a name."""
    if not isinstance(value, str) or not 1 <= len(value) <= LONGEST_NAME:
        return False
    return all([character in NAME_CHARACTERS for character in value])


def is_kind(value):
    """True if the value is a kind."""
    if not isinstance(value, tuple) or len(value) != 3:
        return False
    name, cost, deadline = value
    return is_name(name) and is_integer(cost, 1, MOST_UNITS) and is_integer(deadline, 1, MOST_UNITS)


def is_way(value, kind_names):
    """True if the value is a way between kinds of these names."""
    if not isinstance(value, tuple) or len(value) != 3:
        return False
    source, target, distance = value
    return source in kind_names and target in kind_names and is_integer(distance, 1, MOST_UNITS)


def are_different(names):
    """True if no name stands twice in the list."""
    return len(set(names)) == len(names)


def are_kinds(kinds):
    """True if a task may have these kinds."""
    if not 1 <= len(kinds) <= MOST_KINDS:
        return False
    return all([is_kind(kind) for kind in kinds]) and are_different([kind[0] for kind in kinds])


def are_ways(ways, kinds):
    """True if a task with these kinds may have these ways."""
    if len(ways) > MOST_WAYS:
        return False
    kind_names = [kind[0] for kind in kinds]
    return all([is_way(way, kind_names) for way in ways])


def is_table(capacities):
    """True if the capacities are a table."""
    if not 1 <= len(capacities) <= LONGEST_TABLE:
        return False
    return all([is_integer(units, 0, MOST_CAPACITY) for units in capacities])


def are_task_names(names):
    """True if the tasks of a system may have these names."""
    return len(names) <= MOST_TASKS and are_different(names)
