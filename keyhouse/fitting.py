"""Frames, and single keys and locks of a frame.

A key is a list of depths, one for each pin. A lock is a list of sets of
depths, one for each pin; a set is a whole number with bit d for depth d.
"""


class Frame:
    """How many pins and depths there are, and how far apart neighbours may be."""

    def __init__(self, pins, depths, step):
        self.pins = pins
        self.depths = depths
        self.step = step


def is_as_told(frame):
    return 2 <= frame.pins <= 6 and 2 <= frame.depths <= 8 and 0 <= frame.step <= 7


def is_lock(frame, lock):
    return all([chosen >> frame.depths == 0 for chosen in lock])


def can_be_cut(frame, key):
    if not all([depth < frame.depths for depth in key]):
        return False
    return all([abs(left - right) <= frame.step for left, right in zip(key, key[1:])])


def fits(lock, key):
    return all([chosen >> depth & 1 == 1 for chosen, depth in zip(lock, key)])


def how_many_fit(frame, lock):
    """Count the keys that can be cut and open the lock, pin by pin."""
    ways = [1 if lock[0] >> depth & 1 else 0 for depth in range(frame.depths)]
    for chosen in lock[1:]:
        ways = [
            near_ways(frame, ways, depth) if chosen >> depth & 1 else 0
            for depth in range(frame.depths)
        ]
    return sum(ways)


def near_ways(frame, ways, depth):
    """Add up the ways of all depths that may stand beside this one."""
    return sum(ways[max(0, depth - frame.step):depth + frame.step + 1])
