"""How tests tell calls and read answers, and the document's words taken plainly.

What is answered here is found by trying key by key, with nothing clever: slow,
and easy to compare with the document.
"""

import itertools

from keyhouse.locks import answers

ALL_DOORS = 4294967295

BAD_FRAMES = [
    (0, 0, 0), (0, 4, 2), (1, 4, 2), (7, 4, 2), (255, 4, 2),
    (3, 0, 2), (3, 1, 2), (3, 9, 2), (3, 255, 2),
    (3, 4, 8), (3, 4, 255), (255, 255, 255),
]

EDGE_FRAMES = [
    (2, 2, 0), (2, 8, 0), (6, 2, 0), (6, 2, 7), (2, 8, 7), (2, 2, 7), (6, 8, 0), (6, 8, 7),
]


def row(numbers):
    return [len(numbers)] + list(numbers)


def opens(frame, lock=(), key=()):
    return [0] + list(frame) + row(lock) + row(key)


def many(frame, lock=()):
    return [1] + list(frame) + row(lock)


def following(frame, yes=(), no=(), after=()):
    """The call next; yes and no are lists of locks."""
    return [2] + list(frame) + row(sum(map(list, yes), [])) + row(sum(map(list, no), [])) + row(after)


def start(frame):
    return [10] + list(frame)


def come(person, doors):
    return [11, person, doors]


def split(told):
    """The answers, each by itself."""
    single = []
    place = 0
    while place < len(told):
        size = told[place]
        single.append(told[place + 1:place + 1 + size])
        place += 1 + size
    assert place == len(told), "an answer is shorter than its count"
    return single


def ask(*calls):
    return split(answers(sum(map(list, calls), [])))


def ask_one(call):
    (answer,) = ask(call)
    return answer


def all_keys(frame):
    pins, depths, step = frame
    for key in itertools.product(range(depths), repeat=pins):
        if all(abs(key[pin] - key[pin + 1]) <= step for pin in range(pins - 1)):
            yield list(key)


def fits(lock, key):
    return all(lock[pin] >> key[pin] & 1 for pin in range(len(key)))


def plain_next(frame, yes, no, after):
    for key in all_keys(frame):
        if after and key <= list(after):
            continue
        if all(fits(lock, key) for lock in yes) and not any(fits(lock, key) for lock in no):
            return [1] + key
    return [0]


def door_lock(persons, pins, door):
    lock = [0] * pins
    for doors, key in persons.values():
        if doors >> door & 1:
            lock = [lock[pin] | 1 << key[pin] for pin in range(pins)]
    return lock


def in_order(persons, lost, pins):
    every = [tuple(key) for doors, key in persons.values()] + [tuple(key) for key in lost]
    if len(set(every)) < len(every):
        return False
    for door in range(32):
        lock = door_lock(persons, pins, door)
        for doors, key in persons.values():
            if fits(lock, key) != (doors >> door & 1 == 1):
                return False
        if any(fits(lock, key) for key in lost):
            return False
    return True


class PlainHouse:
    def __init__(self, frame, lost=()):
        self.frame = frame
        self.persons = {}
        self.lost = list(lost)

    def locks(self):
        return [door_lock(self.persons, self.frame[0], door) for door in range(32)]

    def come(self, person, doors):
        if person > 31:
            return [-22]
        if person in self.persons:
            return [-17]
        for key in all_keys(self.frame):
            there = dict(self.persons)
            there[person] = (doors, key)
            if in_order(there, self.lost, self.frame[0]):
                before = self.locks()
                self.persons = there
                after = self.locks()
                changed = sum(1 << door for door in range(32) if before[door] != after[door])
                return [0] + key + [0] * (6 - len(key)) + [changed]
        return [-2]
