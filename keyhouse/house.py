"""The house: who is there, with which doors and which key, and what is lost."""

from keyhouse.search import first_key
from keyhouse.search import keys_that_can_be_cut
from keyhouse.search import keys_that_open_any
from keyhouse.search import packed_key
from keyhouse.search import unpacked_lock
from keyhouse.search import widened
from keyhouse.search import without

LAST_PERSON = 31
DOORS = 32
MOST_LOST = 64
TOLD_PINS = 6

NO_KEY_LEFT = -2
NOT_THERE = -3
THERE_ALREADY = -17
NO_SUCH = -22
TOO_MANY_LOST = -28
OUT_OF_ORDER = -33


class Holder:
    """Somebody who is there: the doors that they may open, and their key."""

    def __init__(self, doors, key):
        self.doors = doors
        self.key = key


class House:
    """Holders by the person's number, and the lost keys.

    The dict of holders is never changed but replaced, so that what would be
    can be looked at before it is so, and a refusal leaves all as it was.
    """

    def __init__(self, frame):
        self.frame = frame
        self.cuttable = keys_that_can_be_cut(frame)
        self.persons = {}
        self.lost_ones = []

    def come(self, person, doors):
        if person > LAST_PERSON:
            return [NO_SUCH]
        if person in self.persons:
            return [THERE_ALREADY]
        return self.let_in(self.persons, person, doors, self.cuttable)

    def again(self, person):
        refusal = self.refusal_of(person)
        if refusal:
            return refusal
        holder = self.persons[person]
        old = keys_that_open_any(self.frame, [packed_key(holder.key)])
        return self.let_in(all_but(self.persons, person), person, holder.doors, without(self.cuttable, old))

    def go(self, person):
        refusal = self.refusal_of(person)
        if refusal:
            return refusal
        return [0, self.settle(all_but(self.persons, person))]

    def lose(self, person):
        refusal = self.refusal_of(person)
        if refusal:
            return refusal
        if len(self.lost_ones) >= MOST_LOST:
            return [TOO_MANY_LOST]
        key = self.persons[person].key
        others = all_but(self.persons, person)
        # The others' locks only shrink, so nothing but this key can be amiss.
        if any([opens(lock, packed_key(key)) for lock in door_locks(others)]):
            return [OUT_OF_ORDER]
        self.lost_ones = self.lost_ones + [key]
        return [0, self.settle(others)]

    def tell_key(self, person):
        refusal = self.refusal_of(person)
        if refusal:
            return refusal
        holder = self.persons[person]
        return [0] + told_pins(holder.key) + [holder.doors]

    def tell_door(self, door):
        if door >= DOORS:
            return [NO_SUCH]
        return [0] + told_pins(unpacked_lock(self.frame, door_locks(self.persons)[door]))

    def refusal_of(self, person):
        """The refusal that is due where somebody who is there is asked for; else it is empty."""
        if person > LAST_PERSON:
            return [NO_SUCH]
        return [] if person in self.persons else [NOT_THERE]

    def let_in(self, others, person, doors, pool):
        """Put a person beside the others, with the first key of the pool that keeps order."""
        unfit = unfit_keys(self.frame, others, self.lost_ones, doors)
        key = first_key(self.frame, without(pool, unfit))
        if key is None:
            return [NO_KEY_LEFT]
        persons = dict(others)
        persons[person] = Holder(doors, key)
        return [0] + told_pins(key) + [self.settle(persons)]

    def settle(self, persons):
        """Let these persons be there, and tell the doors whose lock is not as it was."""
        before = door_locks(self.persons)
        self.persons = persons
        return changed_doors(before, door_locks(persons))


def all_but(persons, person):
    others = dict(persons)
    others.pop(person)
    return others


def may_open(doors, door):
    return doors >> door & 1 == 1


def opens(lock, key):
    """Whether a packed key opens a packed lock."""
    return key & ~lock == 0


def door_locks(persons):
    """Each door's lock, packed."""
    locks = [0] * DOORS
    for holder in persons.values():
        depths = packed_key(holder.key)
        for door in range(DOORS):
            if may_open(holder.doors, door):
                locks[door] = locks[door] | depths
    return locks


def changed_doors(before, after):
    return sum([1 << door for door in range(DOORS) if before[door] != after[door]])


def told_pins(numbers):
    return numbers + [0] * (TOLD_PINS - len(numbers))


def keys_with_doors(persons, lost_ones):
    """All keys that there are, packed, with the doors that each may open."""
    held = [(packed_key(holder.key), holder.doors) for holder in persons.values()]
    return held + [(packed_key(key), 0) for key in lost_ones]


def unfit_keys(frame, persons, lost_ones, doors):
    """The keys with which a newcomer with these doors would bring disorder."""
    locks = door_locks(persons)
    known = keys_with_doors(persons, lost_ones)
    taken = [key for key, may in known]
    closed = [lock for door, lock in enumerate(locks) if not may_open(doors, door)]
    parts = missing_parts(locks, known, doors)
    wide = [widened(frame, part) for part in parts]
    return keys_that_open_any(frame, taken + closed + wide)


def missing_parts(locks, known, doors):
    """What keys lack at doors that they may not open, and the newcomer may.

    The newcomer's depths come into these doors' locks. A newcomer's key that
    has all the depths which another key lacks there would let that one in.
    """
    parts = {}
    for door in range(DOORS):
        if may_open(doors, door):
            for key, may in known:
                if not may_open(may, door):
                    parts[key & ~locks[door]] = True
    return list(parts)
