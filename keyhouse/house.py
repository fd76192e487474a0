"""The house: who is there, with which doors and which key, and what is lost."""

from keyhouse.search import first_key
from keyhouse.search import keys_that_can_be_cut
from keyhouse.search import keys_that_open_any
from keyhouse.search import packed_key
from keyhouse.search import widened
from keyhouse.search import without

LAST_PERSON = 31
DOORS = 32
TOLD_PINS = 6

NO_KEY_LEFT = -2
THERE_ALREADY = -17
NO_SUCH = -22


class House:
    """Persons by number, each as (doors, key), and the lost keys."""

    def __init__(self, frame):
        self.frame = frame
        self.cuttable = keys_that_can_be_cut(frame)
        self.persons = {}
        self.lost_ones = []

    def come(self, person, doors):
        if person > LAST_PERSON:
            return [NO_SUCH]
        if person in self.persons:
            return [THERE_ALREADY]
        key = first_key(self.frame, without(self.cuttable, unfit_keys(self, doors)))
        if key is None:
            return [NO_KEY_LEFT]
        before = door_locks(self)
        self.persons[person] = (doors, key)
        return [0] + told_key(key) + [changed_doors(before, door_locks(self))]


def may_open(doors, door):
    return doors >> door & 1 == 1


def door_locks(house):
    """Each door's lock, packed."""
    locks = [0] * DOORS
    for doors, key in house.persons.values():
        depths = packed_key(key)
        for door in range(DOORS):
            if may_open(doors, door):
                locks[door] = locks[door] | depths
    return locks


def changed_doors(before, after):
    return sum([1 << door for door in range(DOORS) if before[door] != after[door]])


def told_key(key):
    return key + [0] * (TOLD_PINS - len(key))


def keys_with_doors(house):
    """All keys that there are, packed, with the doors that each may open."""
    holders = [(packed_key(key), doors) for doors, key in house.persons.values()]
    return holders + [(packed_key(key), 0) for key in house.lost_ones]


def unfit_keys(house, doors):
    """The keys with which a newcomer with these doors would bring disorder."""
    locks = door_locks(house)
    holders = keys_with_doors(house)
    taken = [key for key, may in holders]
    closed = [lock for door, lock in enumerate(locks) if not may_open(doors, door)]
    parts = missing_parts(locks, holders, doors)
    wide = [widened(house.frame, part) for part in parts]
    return keys_that_open_any(house.frame, taken + closed + wide)


def missing_parts(locks, holders, doors):
    """What keys lack at doors that they may not open, and the newcomer may.

    The newcomer's depths come into these doors' locks. A newcomer's key that
    has all the depths which another key lacks there would let that one in.
    """
    parts = {}
    for door in range(DOORS):
        if may_open(doors, door):
            for key, may in holders:
                if not may_open(may, door):
                    parts[key & ~locks[door]] = True
    return list(parts)
