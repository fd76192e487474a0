"""How tests tell calls and read answers, and the document's words taken plainly.

What is answered here is found by trying key by key, with nothing clever: slow,
and easy to compare with the document.
"""

import itertools

from keyhouse.locks import answers

ALL_DOORS = 4294967295

BAD_FRAMES = [
    (0, 0, 0), (0, 4, 2), (1, 4, 2), (7, 4, 2), (255, 4, 2),
    (3, 0, 2), (3, 1, 2), (3, 9, 2), (3, 255, 2),
    (3, 4, 8), (3, 4, 255), (255, 255, 255),
]

EDGE_FRAMES = [
    (2, 2, 0), (2, 8, 0), (6, 2, 0), (6, 2, 7), (2, 8, 7), (2, 2, 7), (6, 8, 0), (6, 8, 7),
]


def row(numbers):
    return [len(numbers)] + list(numbers)


def opens(frame, lock=(), key=()):
    return [0] + list(frame) + row(lock) + row(key)


def many(frame, lock=()):
    return [1] + list(frame) + row(lock)


def following(frame, yes=(), no=(), after=()):
    """The call next; yes and no are lists of locks."""
    return [2] + list(frame) + row(sum(map(list, yes), [])) + row(sum(map(list, no), [])) + row(after)


def start(frame):
    return [10] + list(frame)


def come(person, doors):
    return [11, person, doors]


def again(person):
    return [12, person]


def go(person):
    return [13, person]


def lost(person):
    return [14, person]


def key_of(person):
    """The call key."""
    return [15, person]


def door_of(door):
    """The call door."""
    return [16, door]


def look():
    """Calls that tell all that can be told of a house, and change nothing."""
    return [key_of(person) for person in range(32)] + [door_of(door) for door in range(32)]


def split(told):
    """The answers, each by itself."""
    single = []
    place = 0
    while place < len(told):
        size = told[place]
        single.append(told[place + 1:place + 1 + size])
        place += 1 + size
    assert place == len(told), "an answer is shorter than its count"
    return single


def ask(*calls):
    return split(answers(sum(map(list, calls), [])))


def ask_one(call):
    (answer,) = ask(call)
    return answer


def all_keys(frame):
    pins, depths, step = frame
    for key in itertools.product(range(depths), repeat=pins):
        if all(abs(key[pin] - key[pin + 1]) <= step for pin in range(pins - 1)):
            yield list(key)


def fits(lock, key):
    return all(lock[pin] >> key[pin] & 1 for pin in range(len(key)))


def plain_next(frame, yes, no, after):
    for key in all_keys(frame):
        if after and key <= list(after):
            continue
        if all(fits(lock, key) for lock in yes) and not any(fits(lock, key) for lock in no):
            return [1] + key
    return [0]


def door_lock(persons, pins, door):
    lock = [0] * pins
    for doors, key in persons.values():
        if doors >> door & 1:
            lock = [lock[pin] | 1 << key[pin] for pin in range(pins)]
    return lock


def in_order(persons, lost, pins):
    every = [tuple(key) for doors, key in persons.values()] + [tuple(key) for key in lost]
    if len(set(every)) < len(every):
        return False
    for door in range(32):
        lock = door_lock(persons, pins, door)
        for doors, key in persons.values():
            if fits(lock, key) != (doors >> door & 1 == 1):
                return False
        if any(fits(lock, key) for key in lost):
            return False
    return True


def six(numbers):
    return list(numbers) + [0] * (6 - len(numbers))


class PlainHouse:
    """A house as the document tells it: what would be is tried, key by key."""

    def __init__(self, frame, lost=()):
        self.frame = frame
        self.persons = {}
        self.lost_keys = [list(key) for key in lost]

    def locks(self):
        return [door_lock(self.persons, self.frame[0], door) for door in range(32)]

    def is_in_order(self):
        return in_order(self.persons, self.lost_keys, self.frame[0])

    def become(self, persons):
        before = self.locks()
        self.persons = persons
        after = self.locks()
        return sum(1 << door for door in range(32) if before[door] != after[door])

    def with_first(self, person, doors, keys):
        for key in keys:
            there = dict(self.persons)
            there[person] = (doors, key)
            if in_order(there, self.lost_keys, self.frame[0]):
                return [0] + six(key) + [self.become(there)]
        return [-2]

    def without(self, person):
        return {other: held for other, held in self.persons.items() if other != person}

    def refused(self, person):
        if person > 31:
            return [-22]
        if person not in self.persons:
            return [-3]
        return None

    def come(self, person, doors):
        if person > 31:
            return [-22]
        if person in self.persons:
            return [-17]
        return self.with_first(person, doors, all_keys(self.frame))

    def again(self, person):
        if self.refused(person):
            return self.refused(person)
        doors, old = self.persons[person]
        return self.with_first(person, doors, (key for key in all_keys(self.frame) if key != old))

    def go(self, person):
        return self.refused(person) or [0, self.become(self.without(person))]

    def lost(self, person):
        if self.refused(person):
            return self.refused(person)
        if len(self.lost_keys) == 64:
            return [-28]
        doors, key = self.persons[person]
        if not in_order(self.without(person), self.lost_keys + [key], self.frame[0]):
            return [-33]
        self.lost_keys.append(key)
        return [0, self.become(self.without(person))]

    def key(self, person):
        if self.refused(person):
            return self.refused(person)
        doors, key = self.persons[person]
        return [0] + six(key) + [doors]

    def door(self, door):
        return [-22] if door > 31 else [0] + six(self.locks()[door])

    def answer(self, call):
        names = {11: "come", 12: "again", 13: "go", 14: "lost", 15: "key", 16: "door"}
        return getattr(self, names[call[0]])(*call[1:])


def plain_answers(calls):
    """What the document asks for calls of part 2 with frames as told, each by itself."""
    told = []
    house = None
    for call in calls:
        if call[0] == 10:
            house = PlainHouse(tuple(call[1:]))
            told.append([0])
        else:
            told.append(house.answer(call))
    return told


def random_call(source, persons, width, losses=2):
    """A call of part 2 but start, about few persons so that they're often there.

    losses tells how often it is lost: where keys are few, too many leave none.
    """
    kind = source.choices([11, 12, 13, 14, 15, 16], [9, 5, 3, losses, 1, 2])[0]
    if kind == 16:
        return [kind, source.choice([source.randrange(32), 32, ALL_DOORS, source.randrange(width), 0])]
    person = source.choice([32, ALL_DOORS]) if source.random() < 0.03 else source.randrange(persons)
    return [kind, person] + ([source.getrandbits(width)] if kind == 11 else [])
