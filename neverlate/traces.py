"""Traces: schedules as text."""

from neverlate.errors import InvalidNotation
from neverlate.schedules import late_by
from neverlate.words import MOST_DIGITS, read_number


def format_trace(slots):
    """Return the trace of the schedule."""
    lines = []
    for number, slot in enumerate(slots):
        parts = [f"{task}:{release}:{units}" for task, release, units in slot]
        lines.append(" ".join([str(number)] + parts))
    return "\n".join(lines)


def parse_trace(text):
    """Return the schedule whose trace the text is."""
    if text == "":
        return []
    slots = []
    for number, line in enumerate(text.split("\n")):
        words = line.split(" ")
        slot = [_read_part(word) for word in words[1:]]
        if words[0] != str(number) or None in slot:
            raise InvalidNotation(number + 1)
        slots.append(slot)
    return slots


def replay(system, releases, text):
    """Return the first late instant by the schedule whose trace the text is, or None."""
    return late_by(system, releases, parse_trace(text))


def _read_part(word):
    """Return the tuple (task, release, units) that the word writes, or None."""
    numbers = [read_number(part, MOST_DIGITS) for part in word.split(":")]
    if len(numbers) != 3 or None in numbers:
        return None
    return tuple(numbers)
