"""What holds of the whole, over long lists of calls of both parts."""

import random
import unittest

from tests.helper import ALL_DOORS
from tests.helper import PlainHouse, again, all_keys, ask, come, door_lock, door_of, fits, following, go, in_order
from tests.helper import key_of, look, lost, many, opens, plain_answers, plain_next, random_call, start

# Frame, how many persons are spoken of, how many doors. Those with few keys come first.
HOUSES = [
    ((2, 2, 0), 4, 2), ((2, 2, 1), 5, 2), ((2, 8, 0), 6, 1), ((3, 2, 1), 8, 3), ((2, 3, 2), 8, 3),
    ((2, 4, 1), 8, 32), ((3, 3, 1), 10, 4), ((4, 2, 1), 12, 5), ((3, 3, 2), 32, 2), ((2, 8, 7), 16, 6),
    ((6, 2, 1), 12, 4), ((3, 4, 3), 6, 32), ((4, 3, 2), 32, 6), ((3, 5, 2), 20, 3),
]


def house_calls(source, house, count):
    """As many calls; the house begins anew now and then, for its keys are lost."""
    frame, persons, width = house
    calls = []
    for place in range(count):
        if place % 50 == 0:
            calls.append(start(frame))
        else:
            calls.append(random_call(source, persons, width, source.choice([0, 1, 3])))
    return calls


def small_part_1(source):
    """A call of part 1, and what the document asks for it."""
    frame = source.choice([(2, 2, 1), (2, 3, 1), (3, 3, 2)])
    lock = [source.randrange(1 << frame[1]) for pin in range(frame[0])]
    key = source.choice(list(all_keys(frame)))
    kind = source.randrange(3)
    if kind == 0:
        return opens(frame, lock, key), [int(fits(lock, key))]
    if kind == 1:
        return many(frame, lock), [sum(fits(lock, other) for other in all_keys(frame))]
    return following(frame, [], [lock], key), plain_next(frame, [], [lock], key)


class AsTheWordsSay(unittest.TestCase):
    def test_300_mixed_calls_key_by_key(self):
        seen = set()
        for seed, house in enumerate(HOUSES):
            source = random.Random(100 + seed)
            calls = house_calls(source, house, 200)
            told = list(zip(calls, plain_answers(calls)))
            for turn in range(100):
                told.insert(source.randrange(len(told) + 1), small_part_1(source))
            self.assertEqual(ask(*[call for call, answer in told]), [answer for call, answer in told], house)
            seen |= {(call[0], answer[0]) for call, answer in told if call[0] > 10}
        for case in [
            (11, 0), (11, -22), (11, -17), (11, -2), (12, 0), (12, -22), (12, -3), (12, -2),
            (13, 0), (13, -22), (13, -3), (14, 0), (14, -22), (14, -3), (14, -33),
            (15, 0), (15, -22), (15, -3), (16, 0), (16, -22),
        ]:
            self.assertIn(case, seen)

    def test_64_lost_key_by_key(self):
        source = random.Random(130)
        frame = (3, 5, 4)
        calls = [start(frame)]
        for turn in range(66):
            calls += [come(turn % 32, source.choice([0, 1, 2])), lost(turn % 32)]
        calls += [random_call(source, 12, 3) for call in range(60)]
        expected = plain_answers(calls)
        self.assertEqual(ask(*calls), expected)
        self.assertIn([-28], expected)

    def test_several_starts(self):
        source = random.Random(131)
        calls = []
        for house in HOUSES[:5]:
            calls += house_calls(source, house, 40)
        self.assertEqual(ask(*calls), plain_answers(calls))

    def test_6_pins_and_8_depths_key_by_key(self):
        for step in (2, 7):
            source = random.Random(132 + step)
            calls = [start((6, 8, step))]
            for person in range(12):
                calls += [come(person, source.choice([0, 1, 2, 3, 7])), again(source.randrange(12))]
                calls += [lost(source.randrange(12)), go(source.randrange(12)), door_of(source.randrange(3))]
            self.assertEqual(ask(*calls), plain_answers(calls))


class WhatHolds(unittest.TestCase):
    def houses(self):
        """After each call of long lists: the call, its answer, and the house by what is told then."""
        for seed, (frame, persons, width) in enumerate([((6, 8, 7), 32, 32), ((6, 8, 1), 20, 8), ((4, 4, 3), 16, 5)]):
            source = random.Random(140 + seed)
            calls = [start(frame)] + [random_call(source, persons, width, 3) for call in range(110)]
            asked = sum([[call] + look() for call in calls], [])
            told = ask(*asked)
            gone = []
            held = {}
            for place, call in enumerate(calls):
                part = told[place * 65:place * 65 + 65]
                if call[0] == 14 and part[0][0] == 0:
                    gone = gone + [held[call[1]][1]]
                held = {
                    person: (answer[7], answer[1:1 + frame[0]])
                    for person, answer in enumerate(part[1:33]) if answer[0] == 0
                }
                yield frame, call, part[0], held, [answer[1:1 + frame[0]] for answer in part[33:]], gone

    def test_it_is_always_in_order(self):
        most = 0
        for frame, call, answer, held, locks, gone in self.houses():
            self.assertTrue(in_order(held, gone, frame[0]), call)
            most = max(most, len(gone))
        self.assertGreater(most, 5)

    def test_just_these_lost_is_lost_ones_own(self):
        for frame, call, answer, held, locks, gone in self.houses():
            keys = [tuple(key) for doors, key in held.values()]
            self.assertEqual(len(set(keys)), len(keys))
            self.assertFalse(set(keys) & set(map(tuple, gone)))
            for door, lock in enumerate(locks):
                self.assertEqual(lock, door_lock(held, frame[0], door))
                for doors, key in held.values():
                    self.assertEqual(fits(lock, key), doors >> door & 1 == 1)
                self.assertFalse(any(fits(lock, key) for key in gone))

    def test_changed_is_just_the_doors_whose_lock_is_another(self):
        before = None
        for frame, call, answer, held, locks, gone in self.houses():
            if call[0] != 10:
                tells = call[0] in (11, 12, 13, 14) and answer[0] == 0
                changed = answer[-1] if tells else 0
                self.assertEqual([changed >> door & 1 for door in range(32)],
                                 [int(before[door] != locks[door]) for door in range(32)], call)
            before = locks

    def test_go_is_never_refused_to_somebody_who_is_there(self):
        before = {}
        for frame, call, answer, held, locks, gone in self.houses():
            if call[0] == 13:
                self.assertEqual(answer[0] == 0, call[1] in before)
                self.assertNotIn(call[1], held)
            before = held

    def test_who_is_refused_could_not_be_given_a_key(self):
        refused = 0
        for seed, house in enumerate(HOUSES):
            source = random.Random(150 + seed)
            plain = PlainHouse(house[0])
            calls = house_calls(source, house, 50)
            for call, answer in list(zip(calls, ask(*calls)))[1:]:
                if answer == [-2]:
                    refused += 1
                    self.assertFalse(self.keys_for(plain, call))
                plain.answer(call)
                self.assertTrue(plain.is_in_order())
        self.assertGreater(refused, 40)

    def keys_for(self, plain, call):
        """All keys with which it would be in order, but the person's own."""
        held = plain.persons.get(call[1])
        doors = call[2] if held is None else held[0]
        keys = []
        for key in all_keys(plain.frame):
            there = dict(plain.persons)
            there[call[1]] = (doors, key)
            if (held is None or held[1] != key) and in_order(there, plain.lost_keys, plain.frame[0]):
                keys.append(key)
        return keys

    def test_refused_calls_could_be_left_out(self):
        for seed, house in enumerate(HOUSES):
            calls = house_calls(random.Random(160 + seed), house, 300)
            told = ask(*calls)
            kept = [place for place, answer in enumerate(told) if answer[0] >= 0]
            self.assertLess(len(kept), len(calls))
            self.assertEqual(ask(*[calls[place] for place in kept]), [told[place] for place in kept])

    def test_calls_that_only_tell_could_be_left_out(self):
        for seed, house in enumerate(HOUSES):
            calls = house_calls(random.Random(180 + seed), house, 300)
            told = ask(*calls)
            kept = [place for place, call in enumerate(calls) if call[0] not in (15, 16)]
            self.assertEqual(ask(*[calls[place] for place in kept]), [told[place] for place in kept])

    def test_a_full_house(self):
        # 32 persons, 64 lost keys, all doors: as many as there may be.
        calls = [start((6, 8, 7))] + [come(0, ALL_DOORS), lost(0)] * 64
        calls += [come(person, ALL_DOORS) for person in range(32)] + [again(person) for person in range(32)]
        told = ask(*calls, *look())
        self.assertEqual([answer[0] for answer in told], [0] * len(told))
        gone = [answer[1:7] for answer in told[1:129:2]]
        held = {person: (answer[7], answer[1:7]) for person, answer in enumerate(told[-64:-32])}
        self.assertEqual(len(held), 32)
        self.assertTrue(in_order(held, gone, 6))


if __name__ == "__main__":
    unittest.main()
