"""Part 1: opens, many, next."""

import random
import unittest

from tests.helper import BAD_FRAMES, EDGE_FRAMES
from tests.helper import all_keys, ask, ask_one, fits, following, many, opens, plain_next

SMALL_FRAMES = [(2, 2, 0), (2, 2, 1), (2, 8, 3), (3, 3, 1), (3, 4, 2), (4, 3, 7), (6, 2, 1), (5, 3, 0)]


def full(frame):
    return [(1 << frame[1]) - 1] * frame[0]


def random_lock(source, frame):
    return [source.randrange(1 << frame[1]) for pin in range(frame[0])]


def wide_lock(source, frame):
    """A lock that lacks few depths, so that many together shut out all keys."""
    return [full(frame)[0] & ~(1 << source.randrange(frame[1])) for pin in range(frame[0])]


class Frames(unittest.TestCase):
    def test_frame_not_as_told(self):
        for frame in BAD_FRAMES:
            for call in (opens(frame), many(frame), following(frame)):
                self.assertEqual(ask_one(call), [-22], call)

    def test_frames_at_the_edges_are_as_told(self):
        for frame in EDGE_FRAMES:
            zeros = [0] * frame[0]
            self.assertEqual(ask_one(opens(frame, full(frame), zeros)), [1])
            self.assertGreater(ask_one(many(frame, full(frame)))[0], 0)
            self.assertEqual(ask_one(following(frame)), [1] + zeros)


class Opens(unittest.TestCase):
    def test_opens_or_not(self):
        frame = (3, 4, 2)
        lock = [0b0011, 0b0100, 0b1001]
        self.assertEqual(ask_one(opens(frame, lock, [0, 2, 0])), [1])
        self.assertEqual(ask_one(opens(frame, lock, [1, 2, 3])), [1])
        self.assertEqual(ask_one(opens(frame, lock, [2, 2, 3])), [0])
        self.assertEqual(ask_one(opens(frame, lock, [1, 1, 3])), [0])
        self.assertEqual(ask_one(opens(frame, lock, [1, 2, 2])), [0])

    def test_empty_set_is_opened_by_none(self):
        for pin in range(3):
            lock = full((3, 4, 3))
            lock[pin] = 0
            for key in ([0, 0, 0], [3, 3, 3], [1, 2, 1]):
                self.assertEqual(ask_one(opens((3, 4, 3), lock, key)), [0])

    def test_set_with_a_depth_that_there_is_not(self):
        for pin in range(3):
            for chosen in (16, 17, 128, 255):
                lock = [15, 15, 15]
                lock[pin] = chosen
                self.assertEqual(ask_one(opens((3, 4, 2), lock, [0, 0, 0])), [-71])
        self.assertEqual(ask_one(opens((3, 4, 2), [8, 8, 8], [3, 3, 3])), [1])

    def test_key_with_a_depth_that_there_is_not(self):
        for pin in range(3):
            for depth in (4, 5, 255):
                key = [3, 3, 3]
                key[pin] = depth
                self.assertEqual(ask_one(opens((3, 4, 7), [15, 15, 15], key)), [-72])

    def test_key_that_can_not_be_cut(self):
        for key in ([0, 3, 3], [3, 0, 0], [0, 0, 3], [3, 3, 0]):
            self.assertEqual(ask_one(opens((3, 4, 2), [15, 15, 15], key)), [-72])
        self.assertEqual(ask_one(opens((3, 4, 2), [15, 15, 15], [0, 2, 0])), [1])
        # Only neighbours count.
        self.assertEqual(ask_one(opens((3, 4, 2), [15, 15, 15], [0, 2, 3])), [1])

    def test_step_of_0(self):
        self.assertEqual(ask_one(opens((2, 8, 0), [255, 255], [7, 7])), [1])
        self.assertEqual(ask_one(opens((2, 8, 0), [255, 255], [7, 6])), [-72])

    def test_the_refusal_told_first(self):
        self.assertEqual(ask_one(opens((3, 4, 2), [15, 16, 15], [0, 4, 0])), [-71])
        self.assertEqual(ask_one(opens((3, 4, 2), [15, 15, 16], [0, 3, 0])), [-71])

    def test_as_the_words_say(self):
        source = random.Random(1)
        for frame in SMALL_FRAMES:
            locks = [random_lock(source, frame) for turn in range(8)]
            for key in all_keys(frame):
                told = ask(*[opens(frame, lock, key) for lock in locks])
                self.assertEqual(told, [[int(fits(lock, key))] for lock in locks])


class Many(unittest.TestCase):
    def test_all_keys(self):
        self.assertEqual(ask_one(many((6, 8, 7), [255] * 6)), [262144])
        self.assertEqual(ask_one(many((2, 3, 1), [7, 7])), [7])

    def test_step_of_0(self):
        self.assertEqual(ask_one(many((6, 8, 0), [255] * 6)), [8])
        self.assertEqual(ask_one(many((3, 4, 0), [0b0111, 0b1110, 0b1010])), [1])
        self.assertEqual(ask_one(many((2, 4, 0), [0b0011, 0b1100])), [0])

    def test_empty_set(self):
        for pin in range(6):
            lock = [255] * 6
            lock[pin] = 0
            self.assertEqual(ask_one(many((6, 8, 7), lock)), [0])

    def test_set_with_a_depth_that_there_is_not(self):
        for pin in range(2):
            lock = [7, 7]
            lock[pin] = 8
            self.assertEqual(ask_one(many((2, 3, 1), lock)), [-71])

    def test_as_the_words_say(self):
        source = random.Random(2)
        for frame in SMALL_FRAMES:
            for turn in range(12):
                lock = random_lock(source, frame)
                count = sum(fits(lock, key) for key in all_keys(frame))
                self.assertEqual(ask_one(many(frame, lock)), [count], (frame, lock))

    def test_8_depths_and_6_pins_as_the_words_say(self):
        lock = [0b10111101, 0b11100111, 0b01111110, 255, 0b10101011, 0b11011011]
        for step in (1, 3):
            count = sum(fits(lock, key) for key in all_keys((6, 8, step)))
            self.assertEqual(ask_one(many((6, 8, step), lock)), [count])


class Next(unittest.TestCase):
    def test_first_that_opens_these_and_none_of_those(self):
        frame = (2, 3, 2)
        self.assertEqual(ask_one(following(frame)), [1, 0, 0])
        self.assertEqual(ask_one(following(frame, [[6, 7]])), [1, 1, 0])
        self.assertEqual(ask_one(following(frame, [[6, 7], [7, 4]])), [1, 1, 2])
        self.assertEqual(ask_one(following(frame, [], [[3, 3]])), [1, 0, 2])
        self.assertEqual(ask_one(following(frame, [[6, 7]], [[2, 7], [7, 1]])), [1, 2, 1])
        self.assertEqual(ask_one(following(frame, [], [], [0, 2])), [1, 1, 0])

    def test_only_keys_that_can_be_cut(self):
        self.assertEqual(ask_one(following((2, 4, 1), [[1, 12]])), [0])
        self.assertEqual(ask_one(following((2, 4, 1), [], [], [0, 1])), [1, 1, 0])
        self.assertEqual(ask_one(following((2, 4, 1), [[9, 12]])), [1, 3, 2])

    def test_step_of_0(self):
        self.assertEqual(ask_one(following((3, 4, 0), [], [], [1, 1, 1])), [1, 2, 2, 2])
        self.assertEqual(ask_one(following((3, 4, 0), [], [], [1, 1, 2])), [-72])

    def test_empty_set(self):
        frame = (2, 3, 2)
        self.assertEqual(ask_one(following(frame, [[7, 0]])), [0])
        self.assertEqual(ask_one(following(frame, [[7, 7], [0, 7]])), [0])
        self.assertEqual(ask_one(following(frame, [], [[7, 0], [0, 0]])), [1, 0, 0])

    def test_yes_and_no_with_the_same_lock(self):
        for lock in ([7, 7], [1, 2], [0, 0]):
            self.assertEqual(ask_one(following((2, 3, 2), [lock], [lock])), [0])

    def test_after_the_last_key(self):
        self.assertEqual(ask_one(following((2, 3, 2), [], [], [2, 2])), [0])
        self.assertEqual(ask_one(following((6, 8, 7), [], [], [7] * 6)), [0])
        self.assertEqual(ask_one(following((6, 8, 7), [], [], [7, 7, 7, 7, 7, 6])), [1] + [7] * 6)
        self.assertEqual(ask_one(following((2, 3, 2), [[3, 7]], [], [1, 2])), [0])

    def test_nothing_is_not_the_first_key(self):
        self.assertEqual(ask_one(following((2, 3, 2), [], [], [])), [1, 0, 0])
        self.assertEqual(ask_one(following((2, 3, 2), [], [], [0, 0])), [1, 0, 1])

    def test_32_locks_and_more(self):
        for pins in (2, 6):
            frame = (pins, 8, 7)
            lock = [255] * pins
            hollow = [0] * pins
            self.assertEqual(ask_one(following(frame, [lock] * 32, [hollow] * 32)), [1] + [0] * pins)
            for more in (33, 34):
                self.assertEqual(ask_one(following(frame, [lock] * more)), [-22])
                self.assertEqual(ask_one(following(frame, [], [hollow] * more)), [-22])
            self.assertEqual(ask_one(following(frame, [lock] * 33, [hollow] * 33)), [-22])

    def test_each_of_32_locks_counts(self):
        frame = (2, 8, 7)
        for place in range(32):
            yes = [[255, 255]] * 32
            yes[place] = [8, 32]
            no = [[0, 0]] * 32
            no[place] = [8, 32]
            self.assertEqual(ask_one(following(frame, yes)), [1, 3, 5])
            self.assertEqual(ask_one(following(frame, yes, no)), [0])

    def test_set_with_a_depth_that_there_is_not(self):
        frame = (2, 3, 2)
        for place in range(3):
            for lock in ([8, 0], [0, 8], [255, 7]):
                locks = [[7, 7], [0, 0], [1, 2]]
                locks[place] = lock
                self.assertEqual(ask_one(following(frame, locks)), [-71])
                self.assertEqual(ask_one(following(frame, [], locks)), [-71])

    def test_after_is_no_key(self):
        for after in ([3, 2], [2, 3], [0, 2], [2, 0], [255, 255]):
            self.assertEqual(ask_one(following((2, 3, 1), [], [], after)), [-72])

    def test_the_refusal_told_first(self):
        frame = (2, 3, 1)
        self.assertEqual(ask_one(following(frame, [[8, 8]] * 33, [], [3, 3])), [-22])
        self.assertEqual(ask_one(following(frame, [], [[7, 7]] * 33, [0, 2])), [-22])
        self.assertEqual(ask_one(following(frame, [[8, 8]], [], [3, 3])), [-71])
        self.assertEqual(ask_one(following(frame, [], [[7, 8]], [0, 2])), [-71])

    def test_as_the_words_say(self):
        source = random.Random(3)
        for frame in SMALL_FRAMES:
            keys = list(all_keys(frame))
            for turn in range(60):
                yes = [wide_lock(source, frame) for lock in range(source.randrange(3))]
                no = [wide_lock(source, frame) for lock in range(source.randrange(5))]
                no += [random_lock(source, frame) for lock in range(source.randrange(5))]
                after = source.choice([[], source.choice(keys)])
                self.assertEqual(
                    ask_one(following(frame, yes, no, after)),
                    plain_next(frame, yes, no, after),
                    (frame, yes, no, after),
                )

    def test_8_depths_and_6_pins_as_the_words_say(self):
        source = random.Random(4)
        for step, count in ((7, 10), (7, 32), (1, 6), (3, 20)):
            frame = (6, 8, step)
            no = [wide_lock(source, frame) for lock in range(count)]
            self.assertEqual(ask_one(following(frame, [], no)), plain_next(frame, [], no, []))


class WhatHolds(unittest.TestCase):
    def walk(self, frame, yes=(), no=()):
        keys = []
        told = ask_one(following(frame, yes, no))
        while told[0] == 1:
            keys.append(told[1:])
            told = ask_one(following(frame, yes, no, told[1:]))
        self.assertEqual(told, [0])
        return keys

    def test_next_gives_all_keys_in_order(self):
        for frame in SMALL_FRAMES:
            self.assertEqual(self.walk(frame), list(all_keys(frame)))

    def test_as_many_open_a_lock_as_many_says(self):
        source = random.Random(5)
        for frame in SMALL_FRAMES:
            keys = self.walk(frame)
            for turn in range(4):
                lock = random_lock(source, frame)
                told = ask(*[opens(frame, lock, key) for key in keys])
                count = ask_one(many(frame, lock))[0]
                self.assertEqual(told.count([1]), count)
                opening = self.walk(frame, [lock])
                self.assertEqual(len(opening), count)
                self.assertEqual(sorted(opening + self.walk(frame, [], [lock])), keys)

    def test_a_lock_with_more_is_opened_by_no_fewer(self):
        source = random.Random(6)
        for frame in SMALL_FRAMES + [(6, 8, 7), (6, 8, 1)]:
            lock = [0] * frame[0]
            before = 0
            while lock != full(frame):
                lock[source.randrange(frame[0])] |= 1 << source.randrange(frame[1])
                count = ask_one(many(frame, lock))[0]
                self.assertGreaterEqual(count, before)
                before = count
            self.assertEqual(before, sum(1 for key in all_keys(frame)))


if __name__ == "__main__":
    unittest.main()
