"""The calls, told in one list of whole numbers, and their answers."""

from keyhouse.fitting import Frame
from keyhouse.fitting import can_be_cut
from keyhouse.fitting import fits
from keyhouse.fitting import how_many_fit
from keyhouse.fitting import is_as_told
from keyhouse.fitting import is_lock
from keyhouse.house import House
from keyhouse.search import every_depth
from keyhouse.search import first_key
from keyhouse.search import keys_behind
from keyhouse.search import keys_that_can_be_cut
from keyhouse.search import keys_that_open_any
from keyhouse.search import packed_lock
from keyhouse.search import without

MOST_LOCKS = 32

NOT_AS_TOLD = -22
STRANGE_DEPTH = -71
NOT_A_KEY = -72


class Line:
    """A list of calls, how far it is read, and the house that it is about."""

    def __init__(self, calls):
        self.calls = calls
        self.place = 0
        self.house = None

    def at_end(self):
        return self.place >= len(self.calls)

    def take_number(self):
        number = self.calls[self.place]
        self.place = self.place + 1
        return number

    def take_row(self):
        size = self.take_number()
        row = self.calls[self.place:self.place + size]
        self.place = self.place + size
        return row

    def take_frame(self):
        pins = self.take_number()
        depths = self.take_number()
        step = self.take_number()
        return Frame(pins, depths, step)


def answer_opens(line):
    frame = line.take_frame()
    lock = line.take_row()
    key = line.take_row()
    if not is_as_told(frame):
        return [NOT_AS_TOLD]
    if not is_lock(frame, lock):
        return [STRANGE_DEPTH]
    if not can_be_cut(frame, key):
        return [NOT_A_KEY]
    return [1 if fits(lock, key) else 0]


def answer_many(line):
    frame = line.take_frame()
    lock = line.take_row()
    if not is_as_told(frame):
        return [NOT_AS_TOLD]
    if not is_lock(frame, lock):
        return [STRANGE_DEPTH]
    return [how_many_fit(frame, lock)]


def answer_next(line):
    frame = line.take_frame()
    yes = line.take_row()
    no = line.take_row()
    after = line.take_row()
    if not is_as_told(frame):
        return [NOT_AS_TOLD]
    if max(len(yes), len(no)) > MOST_LOCKS * frame.pins:
        return [NOT_AS_TOLD]
    # One lock behind another has sets alone, as one lock has.
    if not is_lock(frame, yes + no):
        return [STRANGE_DEPTH]
    if not can_be_cut(frame, after):
        return [NOT_A_KEY]
    key = next_key(frame, yes, no, after)
    return [0] if key is None else [1] + key


def next_key(frame, yes, no, after):
    pool = keys_that_can_be_cut(frame)
    if after:
        pool = keys_behind(frame, pool, after)
    pool = pool & keys_that_open_any(frame, [shared_lock(frame, yes)])
    pool = without(pool, keys_that_open_any(frame, single_locks(frame, no)))
    return first_key(frame, pool)


def single_locks(frame, row):
    """The packed locks of a row that has them one behind another."""
    return [packed_lock(row[place:place + frame.pins]) for place in range(0, len(row), frame.pins)]


def shared_lock(frame, row):
    """The packed lock that is opened by just the keys that open all of the row's locks."""
    shared = packed_lock([every_depth(frame)] * frame.pins)
    for lock in single_locks(frame, row):
        shared = shared & lock
    return shared


def answer_start(line):
    frame = line.take_frame()
    if not is_as_told(frame):
        return [NOT_AS_TOLD]
    line.house = House(frame)
    return [0]


def answer_come(line):
    person = line.take_number()
    doors = line.take_number()
    return line.house.come(person, doors)


def answer_again(line):
    return line.house.again(line.take_number())


def answer_go(line):
    return line.house.go(line.take_number())


def answer_lost(line):
    return line.house.lose(line.take_number())


def answer_key(line):
    return line.house.tell_key(line.take_number())


def answer_door(line):
    return line.house.tell_door(line.take_number())


CALLS = {
    0: answer_opens,
    1: answer_many,
    2: answer_next,
    10: answer_start,
    11: answer_come,
    12: answer_again,
    13: answer_go,
    14: answer_lost,
    15: answer_key,
    16: answer_door,
}


def answers(calls):
    line = Line(calls)
    told = []
    while not line.at_end():
        call = line.take_number()
        answer = CALLS[call](line)
        told.append(len(answer))
        told.extend(answer)
    return told
