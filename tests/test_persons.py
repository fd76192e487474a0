"""Part 2: again, go, lost, key, door."""

import random
import unittest

from tests.helper import ALL_DOORS
from tests.helper import again, all_keys, ask, come, door_of, go, key_of, look, lost, opens, start

# The keys of this frame are 00, 01, 10 and 11.
SMALL = (2, 2, 1)


def told_last(*calls):
    return ask(*calls)[-1]


class Again(unittest.TestCase):
    def test_the_first_other_key(self):
        told = ask(start((2, 3, 2)), come(0, 1), again(0), again(0), key_of(0))
        self.assertEqual(told[1:], [
            [0, 0, 0, 0, 0, 0, 0, 1], [0, 0, 1, 0, 0, 0, 0, 1],
            [0, 0, 0, 0, 0, 0, 0, 1], [0, 0, 0, 0, 0, 0, 0, 1],
        ])

    def test_key_is_told_by_six_numbers(self):
        for pins in range(2, 7):
            told = ask(start((pins, 3, 0)), come(0, 5), again(0))
            self.assertEqual(told[2], [0] + [1] * pins + [0] * (6 - pins) + [5])

    def test_not_the_key_of_another(self):
        told = ask(start((2, 3, 2)), come(0, 1), come(1, 2), again(0), again(1))
        self.assertEqual(told[3:], [[0, 0, 2, 0, 0, 0, 0, 1], [0, 0, 0, 0, 0, 0, 0, 2]])

    def test_the_doors_stay(self):
        told = ask(start((3, 4, 2)), come(9, 0b1010), again(9), key_of(9), come(9, 1))
        self.assertEqual(told[3:], [[0, 0, 0, 1, 0, 0, 0, 0b1010], [-17]])

    def test_the_old_key_is_not_lost(self):
        # There are 00 and 11 alone: were 00 lost, there would be none for person 1.
        told = ask(start((2, 2, 0)), come(0, 1), again(0), come(1, 1), key_of(0))
        self.assertEqual(told[2:], [
            [0, 1, 1, 0, 0, 0, 0, 1], [0, 0, 0, 0, 0, 0, 0, 1], [0, 1, 1, 0, 0, 0, 0, 1],
        ])

    def test_the_old_key_does_not_count_for_the_64(self):
        calls = [start((6, 8, 7)), come(0, 0)] + [again(0)] * 65 + [lost(0)]
        self.assertEqual(told_last(*calls), [0, 0])

    def test_the_old_key_is_out_of_the_locks(self):
        told = ask(start((2, 3, 2)), come(0, 1), again(0), door_of(0), come(1, 2))
        self.assertEqual(told[3:], [[0, 1, 2, 0, 0, 0, 0], [0, 0, 0, 0, 0, 0, 0, 2]])

    def test_the_old_key_does_not_stand_in_the_way(self):
        # Were 00 still in the door's lock, 11 would let in 01 and 10.
        told = ask(start(SMALL), come(0, 1), come(1, 0), come(2, 0), again(0))
        self.assertEqual(told[1:], [
            [0, 0, 0, 0, 0, 0, 0, 1], [0, 0, 1, 0, 0, 0, 0, 0], [0, 1, 0, 0, 0, 0, 0, 0],
            [0, 1, 1, 0, 0, 0, 0, 1],
        ])

    def test_nobody_else_is_let_in(self):
        # 10 may open nothing; with 11 in the place of 01, beside 00, it would open door 0.
        calls = [start(SMALL), come(0, 1), come(1, 1), come(2, 0)]
        self.assertEqual(ask(*calls)[1:], [
            [0, 0, 0, 0, 0, 0, 0, 1], [0, 0, 1, 0, 0, 0, 0, 1], [0, 1, 0, 0, 0, 0, 0, 0],
        ])
        self.assertEqual(told_last(*calls, again(1)), [-2])
        self.assertEqual(told_last(*calls, again(0)), [0, 1, 1, 0, 0, 0, 0, 1])

    def test_one_key_alone(self):
        told = ask(start((2, 2, 0)), come(0, 1), come(1, 2), again(0), again(1), key_of(0), key_of(1))
        self.assertEqual(told[3:], [
            [-2], [-2], [0, 0, 0, 0, 0, 0, 0, 1], [0, 1, 1, 0, 0, 0, 0, 2],
        ])
        # The other key is lost, not another's.
        told = ask(start((2, 2, 0)), come(0, 1), lost(0), come(0, 1), again(0), key_of(0))
        self.assertEqual(told[3:], [[0, 1, 1, 0, 0, 0, 0, 1], [-2], [0, 1, 1, 0, 0, 0, 0, 1]])

    def test_person_above_31(self):
        for person in (32, 33, 64, ALL_DOORS):
            self.assertEqual(told_last(start((3, 4, 2)), come(0, 1), again(person)), [-22])

    def test_not_there(self):
        self.assertEqual(told_last(start((3, 4, 2)), again(0)), [-3])
        self.assertEqual(told_last(start((3, 4, 2)), come(30, 1), again(31)), [-3])
        self.assertEqual(told_last(start((3, 4, 2)), come(5, 1), go(5), again(5)), [-3])
        self.assertEqual(told_last(start((3, 4, 2)), come(5, 1), lost(5), again(5)), [-3])

    def test_the_refusal_told_first(self):
        full = [start((2, 2, 0)), come(0, 0), come(1, 0)]
        self.assertEqual(ask(*full, again(32), again(2), again(1))[3:], [[-22], [-3], [-2]])

    def test_changed_door_by_door(self):
        # Door 0 has all depths with 01, and with 11 in its place; door 2 has not.
        calls = [start(SMALL), come(0, 0b001), come(1, 0b101), come(2, 0b011)]
        told = ask(*calls, again(1), *[door_of(door) for door in range(4)])
        self.assertEqual(told[4], [0, 1, 1, 0, 0, 0, 0, 0b100])
        self.assertEqual([answer[1:3] for answer in told[5:]], [[3, 3], [2, 1], [2, 2], [0, 0]])

    def test_changed_is_nothing_for_somebody_who_may_open_nothing(self):
        self.assertEqual(told_last(start(SMALL), come(0, 0), again(0)), [0, 0, 1, 0, 0, 0, 0, 0])

    def test_all_doors(self):
        told = told_last(start((6, 8, 7)), come(3, ALL_DOORS), again(3))
        self.assertEqual(told, [0, 0, 0, 0, 0, 0, 1, ALL_DOORS])


class Go(unittest.TestCase):
    def test_no_longer_there(self):
        told = ask(start((3, 4, 2)), come(7, 6), go(7), key_of(7), go(7), door_of(1))
        self.assertEqual(told[2:], [[0, 6], [-3], [-3], [0, 0, 0, 0, 0, 0, 0]])

    def test_the_key_may_be_given_anew(self):
        told = ask(start((2, 2, 0)), come(0, 1), come(1, 2), come(2, 4), go(0), come(2, 4))
        self.assertEqual(told[3:], [[-2], [0, 1], [0, 0, 0, 0, 0, 0, 0, 4]])

    def test_the_key_handed_back_is_not_lost(self):
        calls = [start((2, 2, 0))] + [come(0, 1), go(0)] * 70 + [come(0, 1), lost(0)]
        self.assertEqual(ask(*calls)[-2:], [[0, 0, 0, 0, 0, 0, 0, 1], [0, 1]])

    def test_somebody_who_comes_back(self):
        told = ask(start((3, 4, 2)), come(4, 1), go(4), come(4, 6), key_of(4), door_of(0), door_of(2))
        self.assertEqual(told[3:], [
            [0, 0, 0, 0, 0, 0, 0, 6], [0, 0, 0, 0, 0, 0, 0, 6], [0] * 7, [0, 1, 1, 1, 0, 0, 0],
        ])

    def test_others_stay(self):
        told = ask(start((2, 3, 2)), come(0, 3), come(1, 5), come(2, 0), go(1), key_of(0), key_of(2))
        self.assertEqual(told[5:], [[0, 0, 0, 0, 0, 0, 0, 3], [0, 0, 2, 0, 0, 0, 0, 0]])

    def test_is_not_refused_where_others_depths_make_the_key(self):
        told = ask(start(SMALL), come(0, 1), come(1, 1), come(2, 1), go(0), door_of(0))
        self.assertEqual(told[4:], [[0, 0], [0, 3, 3, 0, 0, 0, 0]])

    def test_changed_door_by_door(self):
        # Who goes has 00: door 0 keeps all depths by 01 and 10, door 2 keeps none.
        calls = [start(SMALL), come(0, 0b1111), come(1, 0b0001), come(2, 0b1011)]
        told = ask(*calls, go(0), *[door_of(door) for door in range(4)])
        self.assertEqual(told[4], [0, 0b1110])
        self.assertEqual([answer[1:3] for answer in told[5:]], [[3, 3], [2, 1], [0, 0], [2, 1]])

    def test_all_doors_and_no_doors(self):
        told = ask(start(SMALL), come(0, ALL_DOORS), go(0), come(0, 0), go(0))
        self.assertEqual([told[2], told[4]], [[0, ALL_DOORS], [0, 0]])

    def test_refusals(self):
        for person in (32, 33, 64, ALL_DOORS):
            self.assertEqual(told_last(start((3, 4, 2)), come(0, 1), go(person)), [-22])
        self.assertEqual(told_last(start((3, 4, 2)), go(0)), [-3])
        self.assertEqual(told_last(start((3, 4, 2)), come(30, 1), go(31)), [-3])
        self.assertEqual(told_last(start((3, 4, 2)), come(31, 1), go(31)), [0, 1])


def lose_some(count, person=31):
    """Calls that lose as many keys of somebody who may open nothing: the first that there are."""
    return [come(person, 0), lost(person)] * count


class Lost(unittest.TestCase):
    def test_no_longer_there(self):
        told = ask(start((3, 4, 2)), come(7, 6), lost(7), key_of(7), lost(7), door_of(1))
        self.assertEqual(told[2:], [[0, 6], [-3], [-3], [0, 0, 0, 0, 0, 0, 0]])

    def test_the_key_is_nobodys(self):
        told = ask(start((2, 2, 0)), come(0, 1), lost(0), come(0, 1), come(1, 0), lost(0), come(0, 0))
        self.assertEqual(told[3:], [[0, 1, 1, 0, 0, 0, 0, 1], [-2], [0, 1], [-2]])

    def test_somebody_who_comes_back_gets_another_key(self):
        told = ask(start((3, 4, 2)), come(4, 1), lost(4), come(4, 1), lost(4), come(4, 3))
        self.assertEqual([told[3], told[5]], [[0, 0, 0, 1, 0, 0, 0, 1], [0, 0, 0, 2, 0, 0, 0, 3]])

    def test_others_depths_put_it_together(self):
        # 01 and 10 have between them all that 00 has.
        calls = [start(SMALL), come(0, 1), come(1, 1), come(2, 1)]
        self.assertEqual(told_last(*calls, lost(0)), [-33])
        self.assertEqual(told_last(*calls, lost(1)), [0, 1])
        self.assertEqual(told_last(*calls, lost(2)), [0, 1])
        # The same depths at two doors open neither.
        self.assertEqual(told_last(start(SMALL), come(0, 3), come(1, 1), come(2, 2), lost(0)), [0, 3])
        # One door is enough, the last one too.
        for door in (1, 31):
            calls = [start(SMALL), come(0, 1 | 1 << door), come(1, 1 << door), come(2, 1 << door)]
            self.assertEqual(told_last(*calls, lost(0)), [-33])

    def test_others_coming_do_not_put_it_together(self):
        told = ask(start(SMALL), come(0, 1), lost(0), come(1, 1), come(2, 1), come(3, 1), come(3, 2))
        self.assertEqual(told[3:], [
            [0, 0, 1, 0, 0, 0, 0, 1], [0, 1, 1, 0, 0, 0, 0, 1], [-2], [0, 1, 0, 0, 0, 0, 0, 2],
        ])

    def test_again_does_not_put_it_together(self):
        # 00 is lost: 01 and 10 may be at two doors, and not at one.
        apart = ask(start(SMALL), come(0, 1), lost(0), come(1, 1), come(2, 2), again(2), again(2))
        self.assertEqual(apart[4:], [
            [0, 1, 0, 0, 0, 0, 0, 2], [0, 1, 1, 0, 0, 0, 0, 2], [0, 1, 0, 0, 0, 0, 0, 2],
        ])
        beside = ask(start(SMALL), come(0, 1), lost(0), come(1, 1), come(2, 1), again(2))
        self.assertEqual(beside[4:], [[0, 1, 1, 0, 0, 0, 0, 1], [-2]])

    def test_it_opens_no_door_from_then_on(self):
        source = random.Random(21)
        frame = (3, 3, 2)
        calls = [start(frame), come(0, 1), come(1, 3), come(2, 2), lost(0), lost(2)]
        gone = [answer[1:4] for answer in ask(*calls)[1:4:2]]
        for turn in range(40):
            person = source.randrange(8)
            calls.append(source.choice([come(person, source.randrange(4)), again(person), go(person)]))
        for end in range(6, len(calls) + 1):
            locks = [answer[1:4] for answer in ask(*calls[:end], door_of(0), door_of(1), door_of(2))[end:]]
            told = ask(*[opens(frame, lock, key) for lock in locks for key in gone])
            self.assertEqual(told, [[0]] * 6)

    def test_64_lost(self):
        calls = [start((6, 8, 7))] + lose_some(64)
        told = ask(*calls, come(31, 5), lost(31), key_of(31), go(31), come(0, 0), lost(0))
        self.assertEqual(told[2:129:2], [[0, 0]] * 64)
        self.assertEqual([answer[1:7] for answer in told[1:129:2]], [[0, 0, 0, 0, n // 8, n % 8] for n in range(64)])
        key = [0, 0, 0, 1, 0, 0]
        self.assertEqual(told[129:], [[0] + key + [5], [-28], [0] + key + [5], [0, 5], [0] + key + [0], [-28]])

    def test_63_lost(self):
        told = ask(start((6, 8, 7)), *lose_some(63), come(0, 1), come(1, 2), lost(1), lost(0))
        self.assertEqual(told[-2:], [[0, 2], [-28]])

    def test_start_forgets_what_is_lost(self):
        calls = [start((6, 8, 7))] + lose_some(64) + [start((6, 8, 7)), come(0, 1), lost(0)]
        self.assertEqual(ask(*calls)[-2:], [[0, 0, 0, 0, 0, 0, 0, 1], [0, 1]])

    def test_a_refused_start_forgets_nothing(self):
        told = ask(start((2, 2, 0)), come(0, 1), lost(0), start((2, 2, 8)), come(0, 1))
        self.assertEqual(told[3:], [[-22], [0, 1, 1, 0, 0, 0, 0, 1]])

    def test_the_refusal_told_first(self):
        # Person 20 gets 000077, the others 000100 to 000107 and 000110: these put 000100 together.
        calls = [start((6, 8, 7))] + lose_some(63) + [come(20, 1 << 9)]
        calls += [come(person, 1) for person in range(9)]
        told = ask(*calls)
        self.assertEqual(told[-9], [0, 0, 0, 0, 1, 0, 0, 1])
        self.assertEqual(told[-1], [0, 0, 0, 0, 1, 1, 0, 1])
        told = ask(*calls, lost(0), lost(20), lost(0), lost(1), lost(21), lost(32))[len(calls):]
        self.assertEqual(told, [[-33], [0, 1 << 9], [-28], [-28], [-3], [-22]])

    def test_refusals(self):
        for person in (32, 33, 64, ALL_DOORS):
            self.assertEqual(told_last(start((3, 4, 2)), come(0, 1), lost(person)), [-22])
        self.assertEqual(told_last(start((3, 4, 2)), lost(0)), [-3])
        self.assertEqual(told_last(start((3, 4, 2)), come(30, 1), lost(31)), [-3])
        self.assertEqual(told_last(start((3, 4, 2)), come(31, 1), lost(31)), [0, 1])

    def test_changed_door_by_door(self):
        # A lock that stays as it was would still be opened, so all doors of the key change.
        calls = [start((2, 3, 1)), come(0, 0b0001), come(1, 0b0110), come(2, 0b0101)]
        told = ask(*calls, lost(1), *[door_of(door) for door in range(4)])
        self.assertEqual([answer[1:3] for answer in told[1:4]], [[0, 0], [0, 1], [1, 2]])
        self.assertEqual(told[4], [0, 0b0110])
        self.assertEqual([answer[1:3] for answer in told[5:]], [[3, 5], [0, 0], [2, 4], [0, 0]])

    def test_all_doors_and_no_doors(self):
        told = ask(start((2, 3, 2)), come(0, ALL_DOORS), lost(0), come(0, 0), lost(0))
        self.assertEqual([told[2], told[4]], [[0, ALL_DOORS], [0, 0]])

    def test_fewer_keys_than_persons(self):
        frame = (2, 3, 1)
        keys = list(all_keys(frame))
        told = ask(start(frame), *lose_some(len(keys)), come(0, 0), lost(0), come(1, 1))
        self.assertEqual([answer[1:3] for answer in told[1:15:2]], keys)
        self.assertEqual(told[-3:], [[-2], [-3], [-2]])


class Key(unittest.TestCase):
    def test_key_and_doors(self):
        for pins in range(2, 7):
            told = ask(start((pins, 3, 0)), come(0, 1), come(31, 1 << 31), key_of(31), key_of(0))
            self.assertEqual(told[3], [0] + [1] * pins + [0] * (6 - pins) + [1 << 31])
            self.assertEqual(told[4], [0] * 7 + [1])

    def test_all_doors_and_no_doors(self):
        told = ask(start((2, 3, 2)), come(0, ALL_DOORS), come(1, 0), key_of(0), key_of(1))
        self.assertEqual(told[3], [0] * 7 + [ALL_DOORS])
        # 00 is at every door, and 01 isn't.
        self.assertEqual(told[4], [0, 0, 1, 0, 0, 0, 0, 0])

    def test_refusals(self):
        for person in (32, 33, 64, ALL_DOORS):
            self.assertEqual(told_last(start((3, 4, 2)), come(0, 1), key_of(person)), [-22])
        self.assertEqual(told_last(start((3, 4, 2)), key_of(0)), [-3])
        self.assertEqual(told_last(start((3, 4, 2)), come(30, 1), key_of(31)), [-3])


class Door(unittest.TestCase):
    def test_nobody_may_open_it(self):
        told = ask(start((6, 8, 7)), door_of(0), come(0, 2), door_of(0), door_of(1), door_of(31))
        self.assertEqual([told[1], told[3], told[5]], [[0] * 7] * 3)
        self.assertEqual(told[4], [0, 1, 1, 1, 1, 1, 1])

    def test_lock_is_told_by_six_numbers_first_pin_first(self):
        for pins in range(2, 7):
            told = ask(start((pins, 8, 7)), *[come(person, 1 << 31) for person in range(8)], door_of(31))
            self.assertEqual(told[-1], [0] + [1] * (pins - 1) + [255] + [0] * (6 - pins))

    def test_just_the_depths_of_those_who_may(self):
        told = ask(start((2, 3, 2)), come(0, 1), come(1, 2), come(2, 3), *[door_of(door) for door in range(3)])
        self.assertEqual(told[1:4], [
            [0, 0, 0, 0, 0, 0, 0, 1], [0, 0, 1, 0, 0, 0, 0, 2], [0, 0, 2, 0, 0, 0, 0, 3],
        ])
        self.assertEqual(told[4:], [[0, 1, 5, 0, 0, 0, 0], [0, 1, 6, 0, 0, 0, 0], [0] * 7])

    def test_door_above_31(self):
        for door in (32, 33, 64, ALL_DOORS):
            self.assertEqual(told_last(start((3, 4, 2)), come(0, ALL_DOORS), door_of(door)), [-22])
        self.assertEqual(told_last(start((3, 4, 2)), come(0, ALL_DOORS), door_of(31)), [0, 1, 1, 1, 0, 0, 0])


class Refused(unittest.TestCase):
    def test_a_refused_call_leaves_the_house_as_it_was(self):
        small = [start(SMALL), come(0, 1), come(1, 1), come(2, 1)]
        many_lost = [start((6, 8, 7))] + lose_some(64) + [come(0, 5), come(1, 6)]
        cases = [
            (small, again(32), -22), (small, go(32), -22), (small, lost(32), -22),
            (small, key_of(32), -22), (small, door_of(32), -22), (small, come(32, 1), -22),
            (small, again(3), -3), (small, go(3), -3), (small, lost(3), -3), (small, key_of(3), -3),
            (small, come(3, 2), -2), (small, come(0, 0), -17), (small, lost(0), -33), (small, start((2, 2, 8)), -22),
            (small + [come(3, 1)], again(0), -2), (many_lost, lost(1), -28),
        ]
        for calls, call, refusal in cases:
            told = ask(*calls, *look(), call, *look(), lost(1), come(4, 1), come(5, 4), again(2))
            size = len(calls)
            self.assertEqual(told[size + 64], [refusal], call)
            self.assertEqual(told[size + 65:size + 129], told[size:size + 64], call)
            behind = ask(*calls, lost(1), come(4, 1), come(5, 4), again(2))
            self.assertEqual(told[size + 129:], behind[size:], call)


if __name__ == "__main__":
    unittest.main()
