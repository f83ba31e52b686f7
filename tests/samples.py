"""Tasks, systems and pseudo-random inputs that several tests use."""

from neverlate.tasks import System, Task


def engine(ways=(("a", "b", 4),)):
    """The task of the document's examples."""
    return Task("engine", kinds=[("a", 1, 2), ("b", 2, 3)], ways=list(ways))


def engine_circle():
    """The task of the document's examples with a way back."""
    return engine([("a", "b", 4), ("b", "a", 2)])


def lone(name, cost, deadline, *distances):
    """A task with one kind "k" and ways of these distances from it to itself."""
    return Task(name, kinds=[("k", cost, deadline)], ways=[("k", "k", distance) for distance in distances])


def random_task(random, name="t", *, kinds=3, ways=4, most=4):
    """A task with at most so many kinds and ways, and units from 1 to `most`."""
    names = ["k%d" % number for number in range(random.randint(1, kinds))]
    return Task(
        name,
        kinds=[(kind, random.randint(1, most), random.randint(1, most)) for kind in names],
        ways=[
            (random.choice(names), random.choice(names), random.randint(1, most))
            for _ in range(random.randint(0, ways))
        ],
    )


def random_table(random, *, slots=4, most=3):
    """A table of at most so many capacities, each from 0 to `most`."""
    return [random.randint(0, most) for _ in range(random.randint(1, slots))]


def random_releases(random, task, *, count=3, slack=2):
    """A legal list of at most `count` releases of the task."""
    releases = []
    time = random.randint(0, slack)
    kind = random.choice(task.kinds)[0]
    for _ in range(random.randint(0, count)):
        releases.append((time, kind))
        ways = task.ways_from(kind)
        if not ways:
            break
        kind, distance = random.choice(ways)
        time += distance + random.randint(0, slack)
    return releases


def random_system(random, *, tasks=2, **limits):
    """A system of at most so many tasks."""
    count = random.randint(0, tasks)
    made = [random_task(random, "t%d" % number, **limits) for number in range(count)]
    return System(made, table=random_table(random))


def legal_lists(task, kind, length, time=0):
    """All legal lists that begin with this kind at this time and have no release behind the length."""
    lists = [[(time, kind)]]
    for target, distance in task.ways_from(kind):
        for later in range(time + distance, length + 1):
            for rest in legal_lists(task, target, length, later):
                lists.append([(time, kind)] + rest)
    return lists
