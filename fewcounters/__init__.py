"""Fewcounters: how often each row was gone through, told by the fewest counters."""
