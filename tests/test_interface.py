"""How calls are told and answered in one list of whole numbers."""

import random
import unittest

from keyhouse.locks import answers
from tests.helper import again, ask, come, door_of, following, go, key_of, lost, many, opens, random_call, start

MIXED = [
    many((3, 4, 1), [15, 15, 15]),
    start((1, 2, 1)),
    opens((3, 4, 1), [15, 15, 15], [0, 1, 2]),
    start((2, 2, 1)),
    come(0, 1),
    following((3, 4, 1), [[14, 15, 15]], [], [1, 0, 0]),
    come(0, 1),
    opens((9, 4, 1)),
    come(1, 3),
    following((2, 2, 1), [[1, 1]], [[1, 1]]),
    come(32, 1),
    again(0),
    door_of(0),
    many((2, 2, 1), [4, 0]),
    lost(1),
    key_of(0),
    key_of(1),
    come(1, 2),
    go(0),
    go(0),
    door_of(32),
    lost(31),
    again(1),
    again(1),
]

MIXED_ANSWERS = [
    1, 26,
    1, -22,
    1, 1,
    1, 0,
    8, 0, 0, 0, 0, 0, 0, 0, 1,
    4, 1, 1, 0, 1,
    1, -17,
    1, -22,
    8, 0, 0, 1, 0, 0, 0, 0, 3,
    1, 0,
    1, -22,
    8, 0, 1, 0, 0, 0, 0, 0, 1,
    7, 0, 3, 3, 0, 0, 0, 0,
    1, -71,
    2, 0, 3,
    8, 0, 1, 0, 0, 0, 0, 0, 1,
    1, -3,
    8, 0, 0, 0, 0, 0, 0, 0, 2,
    2, 0, 1,
    1, -3,
    1, -22,
    1, -3,
    8, 0, 1, 0, 0, 0, 0, 0, 2,
    8, 0, 0, 0, 0, 0, 0, 0, 2,
]


class Interface(unittest.TestCase):
    def test_each_answer_stands_behind_how_many_numbers_it_has(self):
        self.assertEqual(answers(sum(MIXED, [])), MIXED_ANSWERS)

    def test_each_kind_by_itself(self):
        self.assertEqual(answers([0, 2, 3, 1, 2, 7, 7, 2, 0, 1]), [1, 1])
        self.assertEqual(answers([1, 2, 3, 1, 2, 7, 7]), [1, 7])
        self.assertEqual(answers([2, 2, 3, 1, 4, 7, 7, 6, 7, 2, 2, 7, 2, 1, 0]), [3, 1, 2, 1])
        self.assertEqual(answers([2, 2, 3, 1, 0, 0, 0]), [3, 1, 0, 0])
        self.assertEqual(answers([2, 2, 3, 1, 2, 0, 0, 0, 0]), [1, 0])
        self.assertEqual(answers([10, 2, 3, 1]), [1, 0])
        self.assertEqual(answers([10, 2, 3, 1, 11, 7, 9]), [1, 0, 8, 0, 0, 0, 0, 0, 0, 0, 9])
        there = [10, 2, 3, 1, 11, 7, 9]
        told = [1, 0, 8, 0, 0, 0, 0, 0, 0, 0, 9]
        self.assertEqual(answers(there + [12, 7]), told + [8, 0, 0, 1, 0, 0, 0, 0, 9])
        self.assertEqual(answers(there + [13, 7]), told + [2, 0, 9])
        self.assertEqual(answers(there + [14, 7]), told + [2, 0, 9])
        self.assertEqual(answers(there + [15, 7]), told + [8, 0, 0, 0, 0, 0, 0, 0, 9])
        self.assertEqual(answers(there + [16, 3]), told + [7, 0, 1, 1, 0, 0, 0, 0])
        for number in range(12, 16):
            self.assertEqual(answers(there + [number, 32]), told + [1, -22])
            self.assertEqual(answers(there + [number, 6]), told + [1, -3])
        self.assertEqual(answers(there + [16, 32]), told + [1, -22])

    def test_lists_are_empty_where_the_frame_is_not_as_told(self):
        self.assertEqual(answers([0, 0, 3, 1, 0, 0]), [1, -22])
        self.assertEqual(answers([1, 0, 3, 1, 0]), [1, -22])
        self.assertEqual(answers([2, 0, 3, 1, 0, 0, 0]), [1, -22])
        self.assertEqual(answers([10, 0, 3, 1]), [1, -22])

    def test_the_answers_are_a_list_of_whole_numbers(self):
        told = answers(sum(MIXED, []))
        self.assertIs(type(told), list)
        for number in told:
            self.assertIs(type(number), int)

    def test_what_is_handed_in_is_not_changed(self):
        class Watched(list):
            def refuse(self, *args, **kwargs):
                raise AssertionError("the list is changed")

            append = extend = insert = pop = remove = clear = sort = reverse = refuse
            __setitem__ = __delitem__ = __iadd__ = __imul__ = refuse

        calls = sum(MIXED, [])
        answers(calls)
        self.assertEqual(calls, sum(MIXED, []))
        self.assertEqual(answers(Watched(calls)), MIXED_ANSWERS)

    def test_the_answers_are_a_new_list_each_time(self):
        first = answers(sum(MIXED, []))
        first.clear()
        self.assertEqual(answers(sum(MIXED, [])), MIXED_ANSWERS)

    def test_nothing_is_kept_from_one_time_to_the_next(self):
        calls = start((2, 2, 0)) + come(0, 1) + come(1, 2) + come(2, 0)
        calls += lost(1) + come(1, 2)
        expected = [1, 0, 8, 0, 0, 0, 0, 0, 0, 0, 1, 8, 0, 1, 1, 0, 0, 0, 0, 2, 1, -2, 2, 0, 2, 1, -2]
        for turn in range(3):
            self.assertEqual(answers(calls), expected)
            self.assertEqual(answers(sum(MIXED, [])), MIXED_ANSWERS)

    def test_part_1_changes_nothing_of_the_house(self):
        source = random.Random(13)
        house = [start((2, 3, 1))] + [random_call(source, 6, 3, 1) for call in range(60)]
        other = [opens((3, 8, 2), [255] * 3, [7, 7, 7]), many((6, 8, 7), [255] * 6), following((2, 2, 0)), many((0, 0, 0))]
        mixed = []
        for call in house:
            mixed += [source.choice(other), call, source.choice(other)]
        self.assertEqual(ask(*mixed)[1::3], ask(*house))

    def test_300_calls(self):
        calls = []
        for turn in range(60):
            calls += [start((6, 8, 7)), come(3, 5), opens((2, 2, 0), [3, 3], [1, 1])]
            calls += [many((6, 8, 7), [255] * 6), following((6, 8, 7), [], [], [0] * 6)]
        expected = [[0], [0, 0, 0, 0, 0, 0, 0, 5], [1], [262144], [1, 0, 0, 0, 0, 0, 1]]
        self.assertEqual(ask(*calls), expected * 60)

    def test_the_longest_list(self):
        source = random.Random(14)
        frame = (6, 8, 7)
        call = following(frame, [[255] * 6] * 32, [[255 & ~(1 << source.randrange(8)) for pin in range(6)]] * 32)
        calls = [call] * (30000 // len(call))
        self.assertEqual(ask(*calls), ask(call) * len(calls))


if __name__ == "__main__":
    unittest.main()
