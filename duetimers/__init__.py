"""Timers that come due in the order of their times, and of one time as they were set."""
