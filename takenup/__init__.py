"""Takenup: where a stopped machine tool can be taken up again, and what it must be told first."""
