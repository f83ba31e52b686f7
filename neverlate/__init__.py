"""Neverlate: deciding whether a job can ever be late."""
