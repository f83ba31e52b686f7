"""Circuits of ways, and the share of the processor that a task can ask for in the long run."""

from neverlate.ratio import compare_ratios, make_ratio


def circuits(task):
    """Return the list of all circuits of the task."""
    ends = [(task.kind_number(source), task.kind_number(target)) for source, target, _ in task.ways]
    found = []
    for first in range(len(task.kinds)):
        found.extend(_circuits_behind(ends, [first], []))
    return found


def circuit_mean(task, circuit):
    """Return the mean of a circuit of the task."""
    ways = [task.ways[number] for number in circuit]
    return make_ratio(sum([task.cost(way[0]) for way in ways]), sum([way[2] for way in ways]))


def best_circuit(task):
    """Return the first circuit whose mean is the share, or the empty list without circuits."""
    best = []
    best_mean = (0, 1)
    for circuit in circuits(task):
        mean = circuit_mean(task, circuit)
        # Costs and distances are at least 1, so each mean is above 0.
        if compare_ratios(mean, best_mean) > 0:
            best = circuit
            best_mean = mean
    return best


def share(task):
    """Return the share of the task."""
    best = best_circuit(task)
    if not best:
        return (0, 1)
    return circuit_mean(task, best)


def _circuits_behind(ends, sources, path):
    """Return the circuits that begin with the path, which leads through the sources to the last of them.

    `ends` has the kind numbers (source, target) of each way. To take the ways in their order, and no
    source below the first one, gives the circuits in the order in which they are listed.
    """
    found = []
    for way, (source, target) in enumerate(ends):
        if source != sources[-1]:
            continue
        if target == sources[0]:
            found.append(path + [way])
        elif target > sources[0] and target not in sources:
            found.extend(_circuits_behind(ends, sources + [target], path + [way]))
    return found
