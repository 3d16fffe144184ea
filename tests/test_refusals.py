"""Refusals: each one, their order, and that the object is as it was behind each (E5)."""

import unittest

from fewboxesdesk.shelf import answers
from reference import begin, box_at, count, files_at, grow, least, pack, put, read, seek, take, where, written

GREATEST = 36893488147419103231
KEYS_END = 2 ** 64


def told(*calls):
    return read(answers(written(calls)))


def last(*calls):
    return told(*calls)[-1]


class EachRefusal(unittest.TestCase):
    def test_without_a_shelf_all_but_begin_is_refused(self):
        for call in (put(1, 1, 1), take(1), grow(1, 1), count(), where(1), box_at(0), files_at(0), seek(1), least(),
                     pack()):
            with self.subTest(call=call):
                self.assertEqual(last(call), [-9])

    def test_a_room_that_is_not_granted(self):
        for room in (0, 10001, GREATEST):
            with self.subTest(room=room):
                self.assertEqual(last(begin(room)), [-1])

    def test_a_room_at_either_end(self):
        self.assertEqual(told(begin(1), put(7, 3, 1)), [[0], [1, 1, 0, 1]])
        self.assertEqual(told(begin(10000), put(7, 3, 10000)), [[0], [1, 1, 0, 1]])

    def test_a_file_above_16383(self):
        for f in (16384, GREATEST):
            for call in (put(f, 1, 1), take(f), grow(f, 1), where(f)):
                with self.subTest(call=call):
                    self.assertEqual(last(begin(5), call), [-1])

    def test_a_file_at_either_end(self):
        for f in (0, 16383):
            with self.subTest(f=f):
                calls = begin(5), put(f, 1, 2), where(f), grow(f, 3), take(f)
                self.assertEqual(told(*calls), [[0], [1, 1, 0, 1], [0, 0, 0, 0, 0], [1, 0, 0, 0], [0, 1, 0, 0]])

    def test_a_key_at_its_end_and_above(self):
        self.assertEqual(last(begin(5), put(1, 0, 1)), [1, 1, 0, 1])
        self.assertEqual(last(begin(5), put(1, KEYS_END - 1, 1)), [1, 1, 0, 1])
        self.assertEqual(last(begin(5), put(1, 1, 1), seek(KEYS_END - 1)), [1, -1])
        for key in (KEYS_END, KEYS_END + 1, GREATEST):
            with self.subTest(key=key):
                self.assertEqual(last(begin(5), put(1, key, 1)), [-1])
                self.assertEqual(last(begin(5), seek(key)), [-1])
                self.assertEqual(last(begin(5), put(1, 1, 1), seek(key)), [-1])

    def test_a_thickness_at_its_ends_and_beyond(self):
        for thick, answer in ((0, [-1]), (1, [1, 1, 0, 1]), (5, [1, 1, 0, 1]), (6, [-1]), (GREATEST, [-1])):
            with self.subTest(thick=thick):
                self.assertEqual(last(begin(5), put(1, 1, thick)), answer)
        for thick, answer in ((0, [-1]), (1, [1, 0, 0, 0]), (5, [1, 0, 0, 0]), (6, [-1]), (GREATEST, [-1])):
            with self.subTest(grown=thick):
                self.assertEqual(last(begin(5), put(1, 1, 2), grow(1, thick)), answer)

    def test_no_such_file(self):
        for call in (take(2), grow(2, 1), where(2)):
            with self.subTest(call=call):
                self.assertEqual(last(begin(5), call), [-4])
                self.assertEqual(last(begin(5), put(1, 1, 1), call), [-4])
                self.assertEqual(last(begin(5), put(2, 1, 1), take(2), call), [-4])

    def test_no_such_box(self):
        two = [begin(5), put(1, 1, 5), put(2, 2, 5)]
        for look in (box_at, files_at):
            for at in (0, 1, GREATEST):
                with self.subTest(look=look, at=at):
                    self.assertEqual(last(begin(5), look(at)), [-4])
                    self.assertEqual(last(begin(5), put(1, 1, 1), take(1), look(at)), [-4])
            for at in (2, 3, 10001, 16384, KEYS_END - 1, KEYS_END, GREATEST):
                with self.subTest(look=look, at=at):
                    self.assertEqual(last(*two, look(at)), [-4])
            for at in (0, 1):
                with self.subTest(look=look, at=at):
                    self.assertEqual(last(*two, look(at))[0], 1)
            self.assertEqual(last(*two, take(1), look(1)), [-4])

    def test_least_and_pack_are_refused_for_want_of_a_shelf_alone(self):
        self.assertEqual(told(least(), pack(), begin(5), least(), pack()), [[-9], [-9], [0], [0], [0, 0, 0, 0]])

    def test_the_file_stands_there_already(self):
        self.assertEqual(last(begin(5), put(1, 1, 1), put(1, 1, 1)), [-8])
        self.assertEqual(last(begin(5), put(1, 1, 1), put(1, 9, 2)), [-8])
        self.assertEqual(last(begin(5), put(1, 1, 1), take(1), put(1, 9, 2)), [1, 1, 0, 1])

    def test_a_33rd_file(self):
        full = [put(f, f, 1) for f in range(32)]
        self.assertEqual(last(begin(5), *full[:31], full[31])[0], 7)
        self.assertEqual(last(begin(5), *full, put(32, 32, 1)), [-6])
        self.assertEqual(last(begin(5), *full, take(3), put(32, 32, 1)), [7, 1, 0, 0])

    def test_a_refusal_is_its_number_alone(self):
        self.assertEqual(answers(written([count(), begin(0), begin(3), take(1)])), [1, -9, 1, -1, 1, 0, 1, -4])


class TheirOrder(unittest.TestCase):
    def test_no_shelf_before_all(self):
        for call in (put(16384, KEYS_END, 0), take(16384), grow(16384, 0), where(16384), box_at(GREATEST),
                     files_at(GREATEST), seek(KEYS_END)):
            with self.subTest(call=call):
                self.assertEqual(last(call), [-9])

    def test_begin_is_never_refused_for_want_of_a_shelf(self):
        self.assertEqual(told(begin(0), count()), [[-1], [-9]])

    def test_not_granted_before_no_such_file(self):
        for call in (grow(2, 0), grow(2, 6), take(16384), where(16384), grow(16384, 1)):
            with self.subTest(call=call):
                self.assertEqual(last(begin(5), put(1, 1, 1), call), [-1])

    def test_not_granted_before_there_already(self):
        for call in (put(1, KEYS_END, 1), put(1, 1, 0), put(1, 1, 6)):
            with self.subTest(call=call):
                self.assertEqual(last(begin(5), put(1, 1, 1), call), [-1])

    def test_not_granted_before_a_33rd_file(self):
        full = [begin(5)] + [put(f, f, 1) for f in range(32)]
        for call in (put(40, KEYS_END, 1), put(40, 1, 0), put(40, 1, 6), put(16384, 1, 1)):
            with self.subTest(call=call):
                self.assertEqual(last(*full, call), [-1])

    def test_there_already_before_a_33rd_file(self):
        full = [begin(5)] + [put(f, f, 1) for f in range(32)]
        self.assertEqual(last(*full, put(31, 9, 1)), [-8])


class TheObjectIsAsItWas(unittest.TestCase):
    SHELF = [begin(10), put(1, 10, 6), put(2, 20, 4), put(3, 30, 5), put(4, 15, 3), put(5, 40, 9), grow(4, 5)]
    LOOK = [where(f) for f in (1, 2, 3, 4, 5, 6)] + [box_at(at) for at in range(4)] + [files_at(at) for at in range(4)]
    LOOK = LOOK + [seek(16), seek(41), least(), count()]
    AFTER = [put(6, 16, 2), grow(5, 3), take(4), pack(), put(7, 30, 8), grow(1, 10)]
    REFUSED = [
        (begin(0), [-1]), (begin(10001), [-1]), (begin(GREATEST), [-1]),
        (put(16384, 1, 1), [-1]), (put(6, KEYS_END, 1), [-1]), (put(6, 1, 0), [-1]), (put(6, 1, 11), [-1]),
        (put(4, 1, 1), [-8]), (put(1, 99, 10), [-8]),
        (take(16384), [-1]), (take(6), [-4]), (take(16383), [-4]),
        (grow(16384, 1), [-1]), (grow(4, 0), [-1]), (grow(4, 11), [-1]), (grow(6, 1), [-4]),
        (where(16384), [-1]), (where(6), [-4]),
        (box_at(4), [-4]), (box_at(GREATEST), [-4]), (files_at(4), [-4]), (files_at(GREATEST), [-4]),
        (seek(KEYS_END), [-1]), (seek(GREATEST), [-1]),
    ]

    def test_behind_each_refusal(self):
        looked = told(*self.SHELF, *self.LOOK, *self.AFTER, *self.LOOK)[len(self.SHELF):]
        for call, answer in self.REFUSED:
            with self.subTest(call=call):
                given = told(*self.SHELF, call, *self.LOOK, *self.AFTER, *self.LOOK)[len(self.SHELF):]
                self.assertEqual(given[0], answer)
                self.assertEqual(given[1:], looked)

    def test_behind_each_refusal_of_a_packed_shelf(self):
        packed = [*self.SHELF, pack()]
        looked = told(*packed, *self.LOOK, *self.AFTER, *self.LOOK)[len(packed):]
        for call, answer in self.REFUSED:
            with self.subTest(call=call):
                given = told(*packed, call, *self.LOOK, *self.AFTER, *self.LOOK)[len(packed):]
                self.assertEqual(given[0], answer)
                self.assertEqual(given[1:], looked)

    def test_a_look_changes_nothing_either(self):
        looked = told(*self.SHELF, *self.LOOK, *self.AFTER, *self.LOOK)[len(self.SHELF):]
        for call in self.LOOK:
            with self.subTest(call=call):
                given = told(*self.SHELF, call, *self.LOOK, *self.AFTER, *self.LOOK)[len(self.SHELF):]
                self.assertEqual(given[1:], looked)

    def test_behind_a_33rd_file(self):
        full = [begin(5)] + [put(f, f, 1) for f in range(32)]
        look = [where(f) for f in range(33)] + [count(), take(3), put(32, 3, 1), count()]
        self.assertEqual(told(*full, put(32, 3, 2), *look)[34:], told(*full, *look)[33:])

    def test_before_a_shelf_is_begun(self):
        refused = [put(1, 1, 1), take(1), begin(0), grow(1, 1), count(), where(1), box_at(0), files_at(0), seek(1),
                   least(), pack()]
        self.assertEqual(told(*refused), [[-9], [-9], [-1]] + [[-9]] * 8)
        self.assertEqual(told(*refused, begin(10), count(), where(1))[11:], [[0], [0, 0, 0, 0], [-4]])

    def test_a_refused_begin_keeps_the_shelf(self):
        calls = begin(10), put(1, 1, 7), begin(0), count(), put(2, 2, 10)
        self.assertEqual(told(*calls)[2:], [[-1], [1, 1, 7, 1], [2, 1, 0, 1]])


if __name__ == "__main__":
    unittest.main()
