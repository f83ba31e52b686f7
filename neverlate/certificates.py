"""Certificates: texts that show that a job can be late, or that none ever is."""

from neverlate.circuits import share
from neverlate.errors import InvalidCertificate
from neverlate.horizons import decisive_horizon, horizon_for, joined_bound
from neverlate.misses import Miss, check_miss, first_miss, first_overfull
from neverlate.rounds import check_rounds, rounds
from neverlate.rules import GREATEST_HORIZON, MOST_KINDS
from neverlate.weights import check_weights, extra_for, weights
from neverlate.words import MOST_DIGITS, read_number

LATE = "late"
EMPTY = "empty"
ROUNDS = "rounds"
BOUNDS = "bounds"


def certificate(system, *, horizon):
    """Return the certificate of the system at the horizon."""
    miss = first_miss(system, horizon=horizon)
    if miss is not None:
        return _late_text(miss)
    if not system.tasks:
        return "never empty"
    decisive = decisive_horizon(system)
    if decisive is not None and decisive <= horizon:
        return _bounds_text(system)
    # The horizon decides the system, so its rows come round there.
    step = rounds(system, horizon=horizon)
    return f"never rounds {step} {horizon}"


def check_certificate(system, text):
    """Return True if the text is a certificate that is right for the system, False if it is not right."""
    lines = [line.split(" ") for line in text.split("\n")]
    head = _read_head(lines[0])
    if head is None:
        raise InvalidCertificate(1)
    form, numbers = head
    entries = []
    for number, words in enumerate(lines[1:], start=2):
        entry = _read_entry(form, words)
        if entry is None:
            raise InvalidCertificate(number)
        entries.append(entry)
    return _is_right(system, form, numbers, entries)


def _late_text(miss):
    """Return the certificate that shows the miss."""
    lines = [f"late {miss.instant} {miss.start}"]
    for task, row in enumerate(miss.releases):
        lines.extend([f"release {task} {time} {kind}" for time, kind in row])
    return "\n".join(lines)


def _bounds_text(system):
    """Return the certificate that shows the shares and the weights of the tasks."""
    lines = ["never bounds"]
    for task in system.tasks:
        numbers = list(share(task)) + weights(task)
        lines.append(" ".join(["task"] + [str(number) for number in numbers]))
    return "\n".join(lines)


def _read_head(words):
    """Return the form that begins with a line of these words, and its numbers, or None."""
    if words == ["never", "empty"]:
        return (EMPTY, [])
    if words == ["never", "bounds"]:
        return (BOUNDS, [])
    if words[0] == "late" and len(words) == 3:
        numbers = _read_numbers(words[1:])
        return None if None in numbers else (LATE, numbers)
    if words[:2] == ["never", "rounds"] and len(words) == 4:
        numbers = _read_numbers(words[2:])
        return None if None in numbers or numbers[1] > GREATEST_HORIZON else (ROUNDS, numbers)
    return None


def _read_entry(form, words):
    """Return what a further line of these words tells in the form, or None."""
    if form == LATE:
        return _read_release(words)
    if form == BOUNDS:
        return _read_task(words)
    return None


def _read_release(words):
    """Return the tuple (task number, time, kind) of a line of a release, or None."""
    if len(words) != 4 or words[0] != "release" or words[3] == "":
        return None
    task, time = _read_numbers(words[1:3])
    return None if task is None or time is None else (task, time, words[3])


def _read_task(words):
    """Return the tuple (rate, weights) of a line of a task, or None."""
    if words[0] != "task" or not 4 <= len(words) <= 3 + MOST_KINDS:
        return None
    numbers = _read_numbers(words[1:])
    if None in numbers or numbers[1] == 0:
        return None
    return ((numbers[0], numbers[1]), numbers[2:])


def _read_numbers(words):
    """Return the numbers that the words write, None for each word that is no number."""
    return [read_number(word, MOST_DIGITS) for word in words]


def _is_right(system, form, numbers, entries):
    """True if the certificate that tells this is right for the system."""
    if form == LATE:
        return _shows_miss(system, numbers, entries)
    if form == ROUNDS:
        step, horizon = numbers
        return check_rounds(system, step=step, horizon=horizon) and _has_room(system, horizon)
    if form == BOUNDS:
        return _shows_bounds(system, entries)
    return not system.tasks


def _shows_miss(system, numbers, entries):
    """True if the miss with these numbers and releases is right."""
    instant, start = numbers
    count = len(system.tasks)
    if any([entry[0] >= count for entry in entries]):
        return False
    releases = [[(time, kind) for task, time, kind in entries if task == number] for number in range(count)]
    return check_miss(system, Miss(instant, start, releases))


def _shows_bounds(system, entries):
    """True if these rates and weights of the tasks show that no window is overfull."""
    if len(entries) != len(system.tasks):
        return False
    bounds = []
    for task, (rate, numbers) in zip(system.tasks, entries):
        if not check_weights(task, rate, numbers):
            return False
        bounds.append((rate[0], extra_for(task, rate, numbers), rate[1]))
    horizon = horizon_for(joined_bound(bounds), system.table)
    return horizon is not None and horizon <= GREATEST_HORIZON and _has_room(system, horizon)


def _has_room(system, horizon):
    """True if no window that ends at the horizon or earlier is overfull."""
    return first_overfull(system, horizon=horizon) is None
