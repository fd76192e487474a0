"""A house's keys and locks: keyhouse.locks.answers is the way in."""
