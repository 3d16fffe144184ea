"""Files stand in order in boxes that keep their numbers (E1, E3), call by call, and what would be wrong."""

import unittest

from fewboxesdesk.shelf import answers
from reference import begin, count, grow, put, read, take, where, written

KEYS_END = 2 ** 64


def told(*calls):
    return read(answers(written(calls)))


def row(calls, files):
    """The boxes behind these calls, from the front: (number, its files), as `where` tells of each file."""
    found = {}
    given = told(*calls, *[where(f) for f in files])[len(calls):]
    for f, (zero, number, at, index, before) in zip(files, given):
        found.setdefault((at, number), {})[index] = f
    boxes = []
    for at, number in sorted(found):
        held = found[(at, number)]
        assert at == len(boxes) and sorted(held) == list(range(len(held)))
        boxes.append((number, [held[index] for index in sorted(held)]))
    return boxes


class Begin(unittest.TestCase):
    def test_a_new_shelf_is_empty(self):
        self.assertEqual(told(begin(10), count()), [[0], [0, 0, 0, 0]])

    def test_a_second_begin_numbers_from_0_again(self):
        calls = [begin(10), put(1, 1, 9), put(2, 2, 9), begin(4), count(), where(1), put(1, 5, 4), where(1), count()]
        self.assertEqual(told(*calls)[3:], [[0], [0, 0, 0, 0], [-4], [1, 1, 0, 1], [0, 0, 0, 0, 0], [1, 1, 4, 1]])

    def test_a_second_begin_has_its_own_room(self):
        self.assertEqual(told(begin(10), begin(4), put(1, 1, 5), begin(6), put(1, 1, 5))[2:], [[-1], [0], [1, 1, 0, 1]])


class TheOrder(unittest.TestCase):
    def test_by_keys(self):
        calls = [begin(10), put(1, 30, 1), put(2, 10, 1), put(3, 20, 1)]
        self.assertEqual(row(calls, [1, 2, 3]), [(0, [2, 3, 1])])

    def test_of_one_key_by_numbers(self):
        calls = [begin(10), put(9, 5, 1), put(4, 5, 1), put(0, 5, 1), put(6, 5, 1), put(16383, 5, 1)]
        self.assertEqual(row(calls, [9, 4, 0, 6, 16383]), [(0, [0, 4, 6, 9, 16383])])

    def test_of_one_key_by_numbers_over_many_boxes(self):
        calls = [begin(1), put(9, 5, 1), put(4, 5, 1), put(0, 5, 1), put(6, 5, 1)]
        self.assertEqual(row(calls, [9, 4, 0, 6]), [(2, [0]), (1, [4]), (3, [6]), (0, [9])])

    def test_keys_at_their_ends(self):
        calls = [begin(10), put(0, KEYS_END - 1, 1), put(1, KEYS_END - 2, 1), put(2, 0, 1), put(3, 2 ** 63, 1)]
        self.assertEqual(row(calls, [0, 1, 2, 3]), [(0, [2, 3, 1, 0])])

    def test_a_file_that_comes_again_stands_by_its_new_key(self):
        calls = [begin(10), put(1, 1, 1), put(2, 2, 1), take(1), put(1, 3, 1)]
        self.assertEqual(row(calls, [1, 2]), [(0, [2, 1])])


class Where(unittest.TestCase):
    def test_what_stands_before_it_in_its_box(self):
        calls = [begin(10), put(1, 1, 3), put(2, 2, 4), put(3, 3, 2), put(4, 4, 8), where(1), where(2), where(3), where(4)]
        self.assertEqual(told(*calls)[5:], [[0, 0, 0, 0, 0], [0, 0, 0, 1, 3], [0, 0, 0, 2, 7], [0, 1, 1, 0, 0]])

    def test_what_stands_before_it_grows(self):
        calls = [begin(10), put(1, 1, 3), put(2, 2, 4), grow(1, 5), where(2), grow(1, 1), where(2), take(1), where(2)]
        given = told(*calls)
        self.assertEqual([given[4], given[6], given[8]], [[0, 0, 0, 1, 5], [0, 0, 0, 1, 1], [0, 0, 0, 0, 0]])


class Count(unittest.TestCase):
    def test_boxes_files_thickness_and_the_next_number(self):
        calls = [begin(10), put(1, 1, 7), count(), put(2, 2, 7), count(), grow(1, 2), count(), take(2), count()]
        given = told(*calls)
        self.assertEqual([given[2], given[4], given[6], given[8]],
                         [[1, 1, 7, 1], [2, 2, 14, 2], [2, 2, 9, 2], [1, 1, 2, 2]])


class BoxNumbers(unittest.TestCase):
    def test_a_box_that_becomes_empty_is_gone_and_its_number_does_not_come_again(self):
        calls = [begin(4), put(1, 1, 4), put(2, 2, 4), take(1), where(2), count(), put(3, 3, 4), where(3)]
        self.assertEqual(told(*calls)[3:], [[1, 1, 0, 0], [0, 1, 0, 0, 0], [1, 1, 4, 2], [2, 1, 0, 1], [0, 2, 1, 0, 0]])

    def test_the_last_numbers_box_gone(self):
        calls = [begin(4), put(1, 1, 4), take(1), count(), put(1, 1, 4), where(1), count()]
        self.assertEqual(told(*calls)[2:], [[0, 1, 0, 0], [0, 0, 0, 1], [1, 1, 0, 1], [0, 1, 0, 0, 0], [1, 1, 4, 2]])

    def test_a_new_box_between_two_others(self):
        calls = [begin(4), put(1, 1, 4), put(3, 3, 4), put(2, 2, 4)]
        self.assertEqual(told(*calls)[3], [3, 1, 0, 1])
        self.assertEqual(row(calls, [1, 2, 3]), [(0, [1]), (2, [2]), (1, [3])])

    def test_a_new_box_at_the_front(self):
        calls = [begin(4), put(2, 2, 4), put(1, 1, 4), put(0, 0, 3)]
        self.assertEqual(row(calls, [0, 1, 2]), [(2, [0]), (1, [1]), (0, [2])])

    def test_two_new_boxes_are_numbered_from_the_front_on(self):
        calls = [begin(10), put(1, 10, 5), put(3, 30, 5), put(2, 20, 10)]
        self.assertEqual(told(*calls)[3], [3, 3, 1, 2])
        self.assertEqual(row(calls, [1, 2, 3]), [(0, [1]), (1, [2]), (2, [3])])

    def test_a_box_that_is_not_changed_keeps_number_and_files(self):
        calls = [begin(10), put(1, 10, 10), put(2, 20, 6), put(3, 30, 10), put(4, 25, 4)]
        self.assertEqual(row(calls, [1, 2, 3, 4]), [(0, [1]), (1, [2, 4]), (2, [3])])


class WrongWouldBe(unittest.TestCase):
    def test_1_a_new_box_where_the_next_one_has_room(self):
        calls = [begin(10), put(1, 10, 10), put(3, 30, 5), put(2, 20, 5)]
        self.assertEqual(told(*calls)[3], [2, 1, 0, 0])
        self.assertEqual(row(calls, [1, 2, 3]), [(0, [1]), (1, [2, 3])])

    def test_2_everything_behind_moved_on(self):
        calls = [begin(4)] + [put(f, f, 2) for f in range(0, 16, 2)] + [put(1, 1, 2)]
        self.assertEqual(told(*calls)[-1], [5, 2, 1, 1])
        self.assertEqual(row(calls, [0, 1, 2, 4, 6, 8]), [(0, [0, 1]), (4, [2]), (1, [4, 6]), (2, [8])])

    def test_3_the_box_in_front_is_looked_at(self):
        calls = [begin(10), put(1, 10, 10), put(2, 20, 6), put(4, 40, 4), grow(1, 4), put(3, 30, 3)]
        self.assertEqual(told(*calls)[5], [2, 2, 1, 0])
        self.assertEqual(row(calls, [1, 2, 3, 4]), [(0, [1, 2]), (1, [3, 4])])

    def test_3_a_coming_file_goes_to_the_box_in_front(self):
        calls = [begin(10), put(1, 10, 5), put(3, 30, 10), put(2, 20, 5)]
        self.assertEqual(told(*calls)[3], [2, 1, 0, 0])
        self.assertEqual(row(calls, [1, 2, 3]), [(0, [1, 2]), (1, [3])])

    def test_4_of_ways_that_change_as_few_the_one_that_moves_fewer_files(self):
        calls = [begin(10)] + [put(f, 10 * f, 2) for f in (1, 2, 3, 4, 5)] + [put(9, 15, 5)]
        self.assertEqual(told(*calls)[6], [2, 2, 1, 1])
        self.assertEqual(row(calls, [1, 2, 3, 4, 5, 9]), [(1, [1, 9]), (0, [2, 3, 4, 5])])

    def test_5_a_box_that_is_empty_does_not_stay(self):
        self.assertEqual(told(begin(3), put(1, 1, 3), put(2, 2, 3), take(2), count())[3:], [[1, 1, 0, 0], [1, 1, 3, 2]])

    def test_7_a_box_is_not_changed_because_a_file_in_it_grew(self):
        calls = [begin(10), put(1, 1, 3), put(2, 2, 3), grow(1, 7), grow(2, 1), grow(2, 3), grow(1, 1), grow(1, 1)]
        self.assertEqual(told(*calls)[3:], [[1, 0, 0, 0]] * 5)

    def test_7_thinner_files_are_not_brought_together(self):
        calls = [begin(10), put(1, 1, 10), put(2, 2, 10), put(3, 3, 10), grow(1, 1), grow(2, 1), grow(3, 1)]
        self.assertEqual(told(*calls)[4:], [[3, 0, 0, 0]] * 3)
        self.assertEqual(row(calls, [1, 2, 3]), [(0, [1]), (1, [2]), (2, [3])])

    def test_11_the_coming_file_is_not_moved(self):
        self.assertEqual(told(begin(10), put(1, 1, 1), put(2, 2, 1), put(3, 0, 10))[1:],
                         [[1, 1, 0, 1], [1, 1, 0, 0], [2, 1, 0, 1]])

    def test_a_file_that_grows_is_moved_as_any_other(self):
        calls = [begin(10), put(1, 1, 5), put(2, 2, 5), grow(2, 6)]
        self.assertEqual(told(*calls)[3], [2, 2, 1, 1])
        self.assertEqual(row(calls, [1, 2]), [(0, [1]), (1, [2])])


if __name__ == "__main__":
    unittest.main()
