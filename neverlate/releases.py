"""Releases: which are legal, when their jobs are due, and how much work they are."""

from neverlate.errors import InvalidReleases


def follows(task, first, second):
    """Return True if the release `second` follows the release `first`."""
    ways = task.ways_from(first[1])
    target = task.kind_number(second[1])
    gap = second[0] - first[0]
    return any([task.kind_number(name) == target and distance <= gap for name, distance in ways])


def is_legal(task, releases):
    """Return True if the list of releases is legal for the task."""
    # An unknown kind comes before a release that does not follow, wherever the two stand.
    for release in releases:
        task.kind_number(release[1])
    return all([follows(task, first, second) for first, second in zip(releases, releases[1:])])


def check_releases(system, releases):
    """Raise InvalidReleases for the first release of the system that is not legal."""
    for task_number, (task, row) in enumerate(zip(system.tasks, releases)):
        for number in range(len(row)):
            if not _is_legal_at(task, row, number):
                raise InvalidReleases(task_number, number)


def _is_legal_at(task, releases, number):
    """True if this release is legal; the releases before it are."""
    release = releases[number]
    if release[1] not in [kind[0] for kind in task.kinds]:
        return False
    return number == 0 or follows(task, releases[number - 1], release)


def due(task, release):
    """Return the due of the release."""
    return release[0] + task.deadline(release[1])


def work(task, releases):
    """Return the work of the list of releases."""
    return sum([task.cost(kind) for _, kind in releases])


def work_within(task, releases, *, start, end):
    """Return the work of the list of releases within the window from start to end."""
    inside = [release for release in releases if release[0] >= start and due(task, release) <= end]
    return work(task, inside)


def system_work_within(system, releases, *, start, end):
    """Return the sum of the work within the window of all tasks."""
    return sum([work_within(task, row, start=start, end=end) for task, row in zip(system.tasks, releases)])


def last_due(system, releases):
    """Return the greatest due of all releases, 0 if there are none."""
    dues = [due(task, release) for task, row in zip(system.tasks, releases) for release in row]
    return max(dues, default=0)


def shift(releases, by):
    """Return the releases of one task with all times greater by `by`."""
    return [(time + by, kind) for time, kind in releases]


def earliest_next(task, release):
    """Return the tuples (kind, time) of the earliest next releases behind the release."""
    ways = task.ways_from(release[1])
    found = []
    for kind in task.kinds:
        distances = [distance for target, distance in ways if target == kind[0]]
        if distances:
            found.append((kind[0], release[0] + min(distances)))
    return found


def all_jobs(system, releases):
    """Return a tuple (due, time, task number, release number, cost) for each release, in ascending order."""
    jobs = []
    for task_number, (task, row) in enumerate(zip(system.tasks, releases)):
        for number, release in enumerate(row):
            time, kind = release
            jobs.append((due(task, release), time, task_number, number, task.cost(kind)))
    return sorted(jobs)
