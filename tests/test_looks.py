"""box, files and seek tell where files stand (E1), as do where and count."""

import unittest

from fewboxesdesk.shelf import answers
from reference import begin, box_at, count, files_at, grow, pack, put, read, seek, take, where, written

GREATEST = 36893488147419103231
KEYS_END = 2 ** 64

# Boxes 0 (1 4), 2 (7), 1 (3 5 9): two files with key 30, the greatest key last.
ROW = [begin(10), put(1, 10, 6), put(3, 30, 5), put(4, 15, 4), put(7, 20, 10), put(5, 30, 2),
       put(9, KEYS_END - 1, 1)]


def told(*calls):
    return read(answers(written(calls)))


def behind(*calls):
    return told(*ROW, *calls)[len(ROW):]


class Box(unittest.TestCase):
    def test_files_number_first_file_and_room_left(self):
        self.assertEqual(behind(box_at(0), box_at(1), box_at(2)), [[2, 0, 1, 0], [1, 2, 7, 0], [3, 1, 3, 2]])

    def test_its_place_is_in_the_row_and_not_its_number(self):
        calls = [begin(4), put(3, 3, 4), put(2, 2, 4), put(1, 1, 3)]
        self.assertEqual(told(*calls, box_at(0), box_at(1), box_at(2))[4:], [[1, 2, 1, 1], [1, 1, 2, 0], [1, 0, 3, 0]])

    def test_room_left_as_files_grow_and_go(self):
        calls = [grow(3, 7), box_at(2), grow(3, 1), box_at(2), take(5), box_at(2)]
        self.assertEqual(behind(*calls)[1::2], [[3, 1, 3, 0], [3, 1, 3, 6], [2, 1, 3, 8]])

    def test_a_box_of_one_file_that_fills_it(self):
        self.assertEqual(told(begin(1), put(0, 0, 1), box_at(0))[2], [1, 0, 0, 0])
        self.assertEqual(told(begin(10000), put(16383, 0, 1), box_at(0))[2], [1, 0, 16383, 9999])

    def test_the_last_place_and_the_one_behind_it(self):
        self.assertEqual(behind(box_at(2), box_at(3), box_at(GREATEST)), [[3, 1, 3, 2], [-4], [-4]])

    def test_a_number_is_no_place(self):
        # Box 1 stands alone, at 0.
        calls = [begin(4), put(1, 1, 4), put(2, 2, 4), take(1), box_at(0), box_at(1)]
        self.assertEqual(told(*calls)[4:], [[1, 1, 2, 0], [-4]])


class Files(unittest.TestCase):
    def test_how_many_and_they_in_order(self):
        self.assertEqual(behind(files_at(0), files_at(1), files_at(2)), [[2, 1, 4], [1, 7], [3, 3, 5, 9]])

    def test_of_one_key_by_numbers_and_not_as_they_came(self):
        calls = [begin(10), put(9, 5, 1), put(4, 5, 1), put(0, 5, 1), put(6, 5, 1), put(16383, 4, 1), files_at(0)]
        self.assertEqual(told(*calls)[6], [5, 16383, 0, 4, 6, 9])

    def test_32_files_in_one_box(self):
        calls = [begin(32)] + [put(f, 100 - f, 1) for f in range(32)]
        self.assertEqual(told(*calls, files_at(0))[33], [32, *range(31, -1, -1)])

    def test_the_last_place_and_the_one_behind_it(self):
        self.assertEqual(behind(files_at(2), files_at(3), files_at(GREATEST)), [[3, 3, 5, 9], [-4], [-4]])

    def test_behind_files_that_come_and_go(self):
        self.assertEqual(behind(take(5), files_at(2), put(2, 30, 2), files_at(2))[1::2], [[2, 3, 9], [3, 2, 3, 9]])


class Seek(unittest.TestCase):
    def test_a_key_below_all(self):
        self.assertEqual(behind(seek(0), seek(9)), [[0, 0], [0, 0]])

    def test_a_key_equal_to_one(self):
        self.assertEqual(behind(seek(10), seek(15), seek(20)), [[0, 0], [1, 0], [2, 1]])

    def test_a_key_between_two(self):
        self.assertEqual(behind(seek(11), seek(16), seek(21), seek(31)), [[1, 0], [2, 1], [3, 2], [5, 2]])

    def test_equal_keys(self):
        self.assertEqual(behind(seek(30)), [[3, 2]])

    def test_equal_keys_over_many_boxes(self):
        calls = [begin(4)] + [put(f, 5, 2) for f in range(6)] + [put(10, 4, 4)]
        self.assertEqual(told(*calls, seek(4), seek(5), seek(6))[8:], [[0, 0], [1, 1], [7, -1]])

    def test_a_key_above_all(self):
        calls = [begin(4), put(1, 10, 3), put(2, 20, 3)]
        self.assertEqual(told(*calls, seek(20), seek(21), seek(KEYS_END - 1))[3:], [[1, 1], [2, -1], [2, -1]])

    def test_the_greatest_key_and_those_that_are_not_granted(self):
        self.assertEqual(behind(seek(KEYS_END - 2), seek(KEYS_END - 1)), [[5, 2], [5, 2]])
        self.assertEqual(behind(seek(KEYS_END), seek(KEYS_END + 1), seek(GREATEST)), [[-1], [-1], [-1]])

    def test_the_least_key(self):
        self.assertEqual(told(begin(4), put(1, 0, 1), seek(0), seek(1))[2:], [[0, 0], [1, -1]])


class NoFiles(unittest.TestCase):
    EMPTY = {"new": [begin(10)], "all gone": [begin(10), put(1, 1, 9), put(2, 2, 9), take(1), take(2)],
             "all gone, packed": [begin(10), put(1, 1, 9), take(1), pack()],
             "begun again": [begin(10), put(1, 1, 9), begin(10)]}

    def test_each_call(self):
        looks = [box_at(0), box_at(1), box_at(GREATEST), files_at(0), files_at(GREATEST), seek(0), seek(KEYS_END - 1),
                 seek(KEYS_END)]
        wanted = [[-4], [-4], [-4], [-4], [-4], [0, -1], [0, -1], [-1]]
        for name, calls in self.EMPTY.items():
            with self.subTest(name):
                self.assertEqual(told(*calls, *looks)[len(calls):], wanted)


class TheyTellTheSame(unittest.TestCase):
    def test_box_files_where_seek_and_count(self):
        keys = {1: 10, 3: 30, 4: 15, 7: 20, 5: 30, 9: KEYS_END - 1}
        boxes, many = behind(count())[0][:2]
        found = []
        for at in range(boxes):
            (held, number, first, left), there = behind(box_at(at), files_at(at))
            self.assertEqual((there[0], there[1]), (held, first))
            for index, f in enumerate(there[1:]):
                self.assertEqual(behind(where(f))[0][:4], [0, number, at, index])
            found.extend(there[1:])
        self.assertEqual((found, many), ([1, 4, 7, 3, 5, 9], 6))
        for f in (1, 4, 7, 3, 9):
            self.assertEqual(behind(seek(keys[f]))[0], [found.index(f), behind(where(f))[0][2]])


if __name__ == "__main__":
    unittest.main()
