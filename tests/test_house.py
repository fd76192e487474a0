"""Part 2: start and come."""

import random
import unittest

from keyhouse.fitting import Frame
from keyhouse.house import House
from tests.helper import ALL_DOORS, BAD_FRAMES, EDGE_FRAMES
from tests.helper import PlainHouse, all_keys, ask, come, door_lock, fits, in_order, many, start


class Start(unittest.TestCase):
    def test_frame_not_as_told(self):
        for frame in BAD_FRAMES:
            self.assertEqual(ask(start(frame)), [[-22]], frame)

    def test_frames_at_the_edges_are_as_told(self):
        for frame in EDGE_FRAMES:
            self.assertEqual(ask(start(frame)), [[0]], frame)

    def test_a_refused_one_may_be_followed_by_another(self):
        told = ask(start((1, 4, 2)), start((2, 9, 2)), start((2, 4, 2)), come(0, 1))
        self.assertEqual(told, [[-22], [-22], [0], [0, 0, 0, 0, 0, 0, 0, 1]])

    def test_coming_again_begins_anew(self):
        told = ask(
            start((2, 2, 0)), come(0, 1), come(1, 2), come(2, 4),
            start((2, 2, 0)), come(0, 1), come(1, 2),
            start((3, 4, 1)), come(0, 2), come(1, 4),
        )
        self.assertEqual(told, [
            [0], [0, 0, 0, 0, 0, 0, 0, 1], [0, 1, 1, 0, 0, 0, 0, 2], [-2],
            [0], [0, 0, 0, 0, 0, 0, 0, 1], [0, 1, 1, 0, 0, 0, 0, 2],
            [0], [0, 0, 0, 0, 0, 0, 0, 2], [0, 0, 0, 1, 0, 0, 0, 4],
        ])

    def test_a_refused_one_leaves_the_house_as_it_was(self):
        told = ask(start((2, 2, 0)), come(0, 1), start((2, 2, 8)), come(0, 1), come(1, 2), come(2, 0))
        self.assertEqual(told[2:], [[-22], [-17], [0, 1, 1, 0, 0, 0, 0, 2], [-2]])


class Come(unittest.TestCase):
    def test_key_is_told_by_six_numbers(self):
        for pins in range(2, 7):
            told = ask(start((pins, 3, 0)), come(0, 1), come(1, 2))
            self.assertEqual(told[2], [0] + [1] * pins + [0] * (6 - pins) + [2])

    def test_person_above_31(self):
        for person in (32, 33, 64, 4294967295):
            told = ask(start((3, 4, 2)), come(person, 1), come(31, 1))
            self.assertEqual(told[1:], [[-22], [0, 0, 0, 0, 0, 0, 0, 1]])

    def test_person_who_is_there_already(self):
        told = ask(start((3, 4, 2)), come(5, 1), come(5, 1), come(5, 2), come(6, 2))
        self.assertEqual(told[2:], [[-17], [-17], [0, 0, 0, 1, 0, 0, 0, 2]])

    def test_somebody_who_may_open_nothing(self):
        told = ask(start((2, 3, 2)), come(0, 0), come(1, 1), come(2, 0))
        self.assertEqual(told[1:], [
            [0, 0, 0, 0, 0, 0, 0, 0], [0, 0, 1, 0, 0, 0, 0, 1], [0, 0, 2, 0, 0, 0, 0, 0],
        ])

    def test_all_doors(self):
        told = ask(start((6, 8, 7)), come(31, ALL_DOORS), come(0, ALL_DOORS))
        self.assertEqual(told[1:], [[0, 0, 0, 0, 0, 0, 0, ALL_DOORS], [0, 0, 0, 0, 0, 0, 1, ALL_DOORS]])

    def test_the_last_door(self):
        told = ask(start((2, 2, 1)), come(0, 1 << 31), come(1, 1 << 31), come(2, 1))
        self.assertEqual(told[1:], [
            [0, 0, 0, 0, 0, 0, 0, 1 << 31], [0, 0, 1, 0, 0, 0, 0, 1 << 31], [0, 1, 0, 0, 0, 0, 0, 1],
        ])

    def test_two_with_the_same_doors_have_their_own_keys(self):
        told = ask(start((2, 2, 1)), come(0, 1), come(1, 1))
        self.assertEqual(told[1:], [[0, 0, 0, 0, 0, 0, 0, 1], [0, 0, 1, 0, 0, 0, 0, 1]])

    def test_own_key_opens_no_other_door(self):
        # With 00, 01 and 10 in it, the first door's lock is opened by every key.
        told = ask(start((2, 2, 1)), come(0, 1), come(1, 1), come(2, 1), come(3, 0), come(3, 2), come(3, 1))
        self.assertEqual(told[3:], [[0, 1, 0, 0, 0, 0, 0, 1], [-2], [-2], [0, 1, 1, 0, 0, 0, 0, 0]])

    def test_nobody_else_is_let_in(self):
        # With 11 beside 00 and 01, person 2's key 10 would open the first door.
        told = ask(start((2, 2, 1)), come(0, 1), come(1, 1), come(2, 0), come(3, 1), come(3, 0))
        self.assertEqual(told[3:], [[0, 1, 0, 0, 0, 0, 0, 0], [-2], [0, 1, 1, 0, 0, 0, 0, 0]])

    def test_fewer_keys_than_persons(self):
        told = ask(start((2, 2, 0)), *[come(person, 0) for person in range(32)])
        self.assertEqual(told[1:3], [[0, 0, 0, 0, 0, 0, 0, 0], [0, 1, 1, 0, 0, 0, 0, 0]])
        self.assertEqual(told[3:], [[-2]] * 30)

    def test_32_persons_with_a_door_each(self):
        told = ask(start((6, 8, 7)), *[come(person, 1 << person) for person in range(32)])
        for person, answer in enumerate(told[1:]):
            key = [0, 0, 0, 0, person // 8, person % 8]
            self.assertEqual(answer, [0] + key + [1 << person])

    def test_the_refusal_told_first(self):
        told = ask(start((2, 2, 0)), come(0, 0), come(1, 0), come(2, 0), come(32, 0), come(1, 0))
        self.assertEqual(told[3:], [[-2], [-22], [-17]])

    def test_changed_door_by_door(self):
        # Door 0 has all depths already when person 3 comes; door 1 has not.
        told = ask(start((2, 2, 1)), come(0, 1), come(1, 5), come(2, 7), come(3, 3))
        self.assertEqual([answer[-1] for answer in told[1:]], [1, 5, 7, 2])
        self.assertEqual(told[4], [0, 1, 0, 0, 0, 0, 0, 2])

    def test_refused_calls_leave_the_house_as_it_was(self):
        calm = [start((2, 3, 1)), come(0, 1), come(1, 3), come(2, 4), come(3, 1), come(4, 0)]
        stirred = [calm[0], come(99, 7), calm[1], come(0, 6), calm[2], come(40, 1), calm[3]]
        told = ask(*stirred)
        self.assertEqual([told[1], told[3], told[5]], [[-22], [-17], [-22]])
        self.assertEqual(told[0:7:2], ask(*calm[:4]))
        source = random.Random(7)
        for turn in range(40):
            calls = [start((2, 3, 1))] + [come(source.randrange(40), source.randrange(8)) for call in range(40)]
            told = ask(*calls)
            kept = [place for place, answer in enumerate(told) if answer[0] == 0]
            self.assertEqual(ask(*[calls[place] for place in kept]), [told[place] for place in kept])

    def test_as_the_words_say(self):
        source = random.Random(8)
        frames = [(2, 2, 1), (2, 3, 1), (3, 2, 1), (3, 3, 2), (2, 8, 7), (6, 2, 1), (3, 4, 1), (2, 8, 0)]
        for frame in frames:
            for width in (1, 3, 32):
                house = PlainHouse(frame)
                calls = [(source.randrange(34), source.getrandbits(width)) for call in range(16)]
                expected = [house.come(person, doors) for person, doors in calls]
                told = ask(start(frame), *[come(person, doors) for person, doors in calls])
                self.assertEqual(told[1:], expected, (frame, calls))

    def test_lost_keys_count(self):
        # [0, 0] is lost; 01 and 10 together at one door would open it again.
        house = House(Frame(2, 2, 1))
        house.lost_ones = [[0, 0]]
        told = [house.come(0, 1), house.come(1, 1), house.come(2, 2)]
        self.assertEqual(told, [[0, 0, 1, 0, 0, 0, 0, 1], [0, 1, 1, 0, 0, 0, 0, 1], [0, 1, 0, 0, 0, 0, 0, 2]])

    def test_lost_keys_count_as_the_words_say(self):
        source = random.Random(9)
        for frame in [(2, 3, 2), (3, 2, 1), (3, 3, 1)]:
            for turn in range(12):
                lost = source.sample(list(all_keys(frame)), source.randrange(5))
                house = House(Frame(*frame))
                house.lost_ones = lost
                plain = PlainHouse(frame, lost)
                for person in range(8):
                    doors = source.randrange(8)
                    self.assertEqual(house.come(person, doors), plain.come(person, doors))


class WhatHolds(unittest.TestCase):
    def persons_behind(self, calls, told):
        """Who is there after the calls, as the answers tell it."""
        pins = calls[0][1]
        persons = {}
        for call, answer in zip(calls[1:], told[1:]):
            if answer[0] == 0:
                persons[call[1]] = (call[2], answer[1:1 + pins])
        return persons

    def test_it_is_always_in_order(self):
        source = random.Random(10)
        for frame in [(6, 8, 7), (6, 8, 1), (4, 5, 2), (3, 8, 4)]:
            for width in (2, 8, 32):
                calls = [start(frame)]
                calls += [come(source.randrange(32), source.getrandbits(width)) for call in range(60)]
                told = ask(*calls)
                for end in range(1, len(calls) + 1, 5):
                    persons = self.persons_behind(calls[:end], told[:end])
                    self.assertTrue(in_order(persons, [], frame[0]))

    def test_doors_not_among_the_changed_have_the_lock_that_they_had(self):
        source = random.Random(11)
        frame = (4, 4, 3)
        calls = [start(frame)] + [come(person, source.getrandbits(4)) for person in range(32)]
        told = ask(*calls)
        for end in range(1, len(calls)):
            before = self.persons_behind(calls[:end], told[:end])
            after = self.persons_behind(calls[:end + 1], told[:end + 1])
            changed = told[end][-1] if told[end][0] == 0 else 0
            for door in range(32):
                same = door_lock(before, 4, door) == door_lock(after, 4, door)
                self.assertEqual(same, changed >> door & 1 == 0)

    def test_who_is_refused_could_not_be_given_a_key(self):
        source = random.Random(12)
        frame = (3, 4, 3)
        calls = [start(frame)] + [come(person, source.getrandbits(5)) for person in range(32)]
        told = ask(*calls)
        self.assertIn([-2], told)
        for place, answer in enumerate(told):
            if answer == [-2]:
                persons = self.persons_behind(calls[:place], told[:place])
                for key in all_keys(frame):
                    there = dict(persons)
                    there[calls[place][1]] = (calls[place][2], key)
                    self.assertFalse(in_order(there, [], 3))

    def test_keys_are_cut_by_the_frame(self):
        for step in (0, 1, 2):
            frame = (3, 5, step)
            told = ask(start(frame), many(frame, [31] * 3), *[come(person, 0) for person in range(32)])
            count = min(32, told[1][0])
            self.assertEqual([answer[1:4] for answer in told[2:2 + count]], list(all_keys(frame))[:count])
            self.assertTrue(all(fits([31] * 3, answer[1:4]) for answer in told[2:2 + count]))


if __name__ == "__main__":
    unittest.main()
