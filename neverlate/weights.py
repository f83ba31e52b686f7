"""Weights of ways and paths, and the linear bounds that follow from them."""

from neverlate.circuits import share


def way_weight(task, way, rate):
    """Return the weight of a way of the task for the rate."""
    source, _, distance = way
    top, bottom = rate
    return task.cost(source) * bottom - distance * top


def weights(task):
    """Return the greatest weight of a path from each kind, for the share of the task."""
    steps = _steps(task, share(task))
    numbers = [0] * len(task.kinds)
    # A path needs fewer ways than there are kinds, and each round allows at least one way more.
    for _ in range(len(task.kinds) - 1):
        for source, target, weight in steps:
            numbers[source] = max(numbers[source], weight + numbers[target])
    return numbers


def check_weights(task, rate, numbers):
    """Return True if the numbers are a certificate for the rate."""
    if len(numbers) != len(task.kinds) or min(numbers) < 0:
        return False
    return all([numbers[source] >= weight + numbers[target] for source, target, weight in _steps(task, rate)])


def linear_bound(task):
    """Return the linear bound (top, extra, bottom) of the task."""
    rate = share(task)
    top, bottom = rate
    return (top, extra_for(task, rate, weights(task)), bottom)


def extra_for(task, rate, numbers):
    """Return the extra that follows from a rate and a number for each kind."""
    top, bottom = rate
    # The two kinds of each value are chosen apart, so each half of it may be the greatest one.
    ends = [bottom * kind[1] - top * kind[2] - number for kind, number in zip(task.kinds, numbers)]
    return max(0, max(numbers) + max(ends))


def _steps(task, rate):
    """Return a tuple (source number, target number, weight) for each way."""
    return [
        (task.kind_number(way[0]), task.kind_number(way[1]), way_weight(task, way, rate))
        for way in task.ways
    ]
