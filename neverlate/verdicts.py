"""Verdicts: whether a job can be late at any time."""

from neverlate.errors import FullLoad, Undecided
from neverlate.horizons import compare_load
from neverlate.misses import first_miss

FIRST_HORIZON = 16
FULL_LOAD_HORIZON = 128


def verdict(system):
    """Return the first miss at any time, or None if no job is ever late."""
    load = compare_load(system)
    horizon = FIRST_HORIZON
    while True:
        try:
            return first_miss(system, horizon=horizon)
        except Undecided:
            # With a full load it may be that no horizon decides.
            if load == 0 and horizon == FULL_LOAD_HORIZON:
                raise FullLoad(horizon) from None
        horizon *= 2


def is_never_late(system):
    """Return True if no job is ever late, False if a job can be late."""
    return verdict(system) is None
