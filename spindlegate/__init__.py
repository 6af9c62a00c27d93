"""Spindlegate: shared block storage for several hosts over several paths."""
