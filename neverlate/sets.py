"""Sets of tasks: which of them are safe together."""

from itertools import combinations

from neverlate.misses import first_miss


def can_live(system, numbers, *, horizon):
    """Return True if the set of the tasks of these numbers is safe, False if it is unsafe."""
    return first_miss(system.only(numbers), horizon=horizon) is None


def cores(system, *, horizon):
    """Return all cores, the unsafe sets all of whose smaller subsets are safe."""
    numbers = list(range(len(system.tasks)))
    found = []
    for count in range(len(numbers) + 1):
        for chosen in combinations(numbers, count):
            # More tasks ask for more: with a core in it, the set is unsafe, and no trial of it is undecided.
            if _has_core(chosen, found):
                continue
            if not can_live(system, chosen, horizon=horizon):
                found.append(list(chosen))
    return found


def _has_core(chosen, found):
    """True if all numbers of some core are among the chosen ones."""
    return any([all([number in chosen for number in core]) for core in found])
