"""least and pack: how few boxes would do, and packed it's so many (E4); boxes keep their numbers (E3)."""

import random
import unittest

from fewboxesdesk.shelf import answers
from reference import (begin, box_at, count, files_at, grow, least, pack, put, read, rows_of_files, seek, take, where,
                       written)


def told(*calls):
    return read(answers(written(calls)))


def row(calls):
    """The boxes behind these calls, from the front: (number, its files)."""
    boxes = told(*calls, count())[-1][0]
    given = told(*calls, *[box_at(at) for at in range(boxes)], *[files_at(at) for at in range(boxes)])[len(calls):]
    return [(given[at][1], given[boxes + at][1:]) for at in range(boxes)]


def thinned(room, thicks):
    """Each file in a box of its own, box f, and then so thick: few boxes would do, but all stay."""
    calls = [begin(room)] + [put(f, f, room) for f in range(len(thicks))]
    return calls + [grow(f, thick) for f, thick in enumerate(thicks)]


class Least(unittest.TestCase):
    def test_no_files(self):
        self.assertEqual(told(begin(1), least()), [[0], [0]])
        self.assertEqual(told(begin(1), put(1, 1, 1), take(1), least()), [[0], [1, 1, 0, 1], [0, 1, 0, 0], [0]])

    def test_one_box_to_the_brim_and_one_more(self):
        self.assertEqual(told(*thinned(10, [4, 3, 3]), least())[-1], [1])
        self.assertEqual(told(*thinned(10, [4, 3, 4]), least())[-1], [2])

    def test_the_order_is_kept(self):
        # Out of order two boxes would do: 6 and 4, 6 and 4.
        self.assertEqual(told(*thinned(10, [6, 6, 4, 4]), least())[-1], [3])

    def test_each_file_fills_a_box(self):
        self.assertEqual(told(*thinned(10, [10] * 32), least())[-1], [32])
        self.assertEqual(told(*thinned(10, [1] * 32), least())[-1], [4])

    def test_it_changes_nothing(self):
        calls = thinned(10, [4, 3, 3])
        self.assertEqual(row([*calls, least()]), row(calls))
        self.assertEqual(told(*calls, least(), count())[-1], told(*calls, count())[-1])

    def test_the_fewest_of_all_ways_to_part_the_files(self):
        fewer = 0
        for number in range(300):
            rng = random.Random(number)
            room = rng.choice([1, 2, 3, 5, 8, 10])
            thicks = [rng.randint(1, room) for f in range(rng.randint(0, 9))]
            keys = [rng.randrange(4) for f in thicks]
            calls = [begin(room)] + [put(f, keys[f], rng.choice([thick, room])) for f, thick in enumerate(thicks)]
            calls += [grow(f, thick) for f, thick in enumerate(thicks)]
            files = sorted(range(len(thicks)), key=lambda f: (keys[f], f))
            fewest = min(len(parts) for parts in rows_of_files(files, thicks, room))
            given = told(*calls, count(), least(), pack(), count(), least())[len(calls):]
            with self.subTest(room=room, thicks=thicks, keys=keys):
                self.assertEqual([given[1], given[2][0], given[3][0], given[4]], [[fewest], fewest, fewest, [fewest]])
            fewer += fewest < given[0][0]
        self.assertGreater(fewer, 100)


class Pack(unittest.TestCase):
    def test_no_files(self):
        self.assertEqual(told(begin(10), pack(), count())[1:], [[0, 0, 0, 0], [0, 0, 0, 0]])
        self.assertEqual(told(begin(10), put(1, 1, 9), take(1), pack(), count())[3:], [[0, 0, 0, 0], [0, 0, 0, 1]])

    def test_one_that_changes_nothing(self):
        calls = [begin(10), put(1, 1, 6), put(2, 2, 4), put(3, 3, 5)]
        self.assertEqual(told(*calls, pack(), pack())[4:], [[2, 0, 0, 0]] * 2)
        self.assertEqual(row([*calls, pack()]), [(0, [1, 2]), (1, [3])])

    def test_a_second_one_changes_nothing(self):
        calls = thinned(10, [4, 3, 3, 5])
        self.assertEqual(told(*calls, pack(), pack())[-2:], [[2, 4, 3, 0], [2, 0, 0, 0]])
        self.assertEqual(row([*calls, pack(), pack()]), row([*calls, pack()]))

    def test_boxes_that_are_just_full_and_one_file_more(self):
        calls = thinned(10, [4, 3, 3, 10, 1])
        self.assertEqual(told(*calls, pack())[-1], [3, 5, 4, 0])
        self.assertEqual(row([*calls, pack()]), [(0, [0, 1, 2]), (1, [3]), (2, [4])])
        self.assertEqual(told(*calls, pack(), box_at(0), box_at(1), box_at(2))[-3:],
                         [[3, 0, 0, 0], [1, 1, 3, 0], [1, 2, 4, 9]])

    def test_boxes_left_over_are_gone_and_counted_changed(self):
        calls = thinned(10, [1] * 6)
        self.assertEqual(told(*calls, pack(), count(), box_at(1))[-3:], [[1, 6, 5, 0], [1, 6, 6, 6], [-4]])
        self.assertEqual(row([*calls, pack()]), [(0, [0, 1, 2, 3, 4, 5])])

    def test_10_from_the_front_and_not_by_the_least_waste(self):
        # Two boxes of 6 would be more even; the front one is filled to the brim.
        calls = thinned(10, [3, 3, 3, 3])
        self.assertEqual(told(*calls, pack(), box_at(0), box_at(1))[-3:], [[2, 4, 3, 0], [3, 0, 0, 1], [1, 1, 3, 7]])
        self.assertEqual(row([*calls, pack()]), [(0, [0, 1, 2]), (1, [3])])

    def test_it_is_filled_anew_where_as_few_boxes_stand_there(self):
        calls = [begin(10), put(1, 1, 10), put(2, 2, 5), put(3, 3, 5), grow(1, 5)]
        self.assertEqual(row(calls), [(0, [1]), (1, [2, 3])])
        self.assertEqual(told(*calls, least(), pack())[-2:], [[2], [2, 2, 1, 0]])
        self.assertEqual(row([*calls, pack()]), [(0, [1, 2]), (1, [3])])

    def test_a_box_that_keeps_its_place_keeps_its_number(self):
        calls = [begin(10)] + [put(f, f, 10) for f in (3, 2, 1, 0)] + [grow(f, 1) for f in (3, 2, 1)]
        self.assertEqual(row(calls), [(3, [0]), (2, [1]), (1, [2]), (0, [3])])
        self.assertEqual(told(*calls, pack())[-1], [2, 3, 2, 0])
        self.assertEqual(row([*calls, pack()]), [(3, [0]), (2, [1, 2, 3])])

    def test_a_box_that_holds_the_same_files_is_not_changed(self):
        calls = thinned(10, [10, 9, 5, 5, 2])
        self.assertEqual(told(*calls, pack())[-1], [4, 3, 2, 0])
        self.assertEqual(row([*calls, pack()]), [(0, [0]), (1, [1]), (2, [2, 3]), (3, [4])])

    def test_all_files_of_a_box_are_moved_on(self):
        # The box holds 2 instead of 1: changed, and 2 is moved, and so is the one behind.
        calls = thinned(10, [5, 5, 7, 7])
        self.assertEqual(told(*calls, pack())[-1], [3, 4, 3, 0])
        self.assertEqual(row([*calls, pack()]), [(0, [0, 1]), (1, [2]), (2, [3])])

    def test_files_of_one_key_by_their_numbers(self):
        calls = [begin(10)] + [put(f, 5, 10) for f in (9, 4, 0)] + [grow(f, 5) for f in (9, 4, 0)]
        self.assertEqual(row([*calls, pack()]), [(2, [0, 4]), (1, [9])])

    def test_where_and_seek_behind_it(self):
        calls = [*thinned(10, [4, 3, 3, 5, 5]), pack()]
        self.assertEqual(told(*calls, where(0), where(2), where(3), where(4))[-4:],
                         [[0, 0, 0, 0, 0], [0, 0, 0, 2, 7], [0, 1, 1, 0, 0], [0, 1, 1, 1, 5]])
        self.assertEqual(told(*calls, seek(2), seek(3), seek(4), seek(5))[-4:], [[2, 0], [3, 1], [4, 1], [5, -1]])

    def test_32_files_in_32_boxes(self):
        calls = thinned(32, [1] * 32)
        self.assertEqual(told(*calls, pack(), count(), files_at(0))[-3:],
                         [[1, 32, 31, 0], [1, 32, 32, 32], [32, *range(32)]])


class BehindPack(unittest.TestCase):
    def test_a_put_opens_a_box_with_the_next_number(self):
        calls = [*thinned(10, [5, 5, 5, 5]), pack(), count()]
        self.assertEqual(told(*calls)[-1], [2, 4, 20, 4])
        calls.append(put(9, 9, 6))
        self.assertEqual(told(*calls, where(9), count())[-3:], [[3, 1, 0, 1], [0, 4, 2, 0, 0], [3, 5, 26, 5]])
        self.assertEqual(row(calls), [(0, [0, 1]), (1, [2, 3]), (4, [9])])

    def test_all_boxes_gone_and_their_numbers_do_not_come_again(self):
        calls = [*thinned(10, [5, 5]), pack(), take(0), take(1), count(), put(7, 7, 1), where(7)]
        self.assertEqual(told(*calls)[-5:], [[1, 1, 0, 0], [0, 1, 0, 0], [0, 0, 0, 2], [1, 1, 0, 1], [0, 2, 0, 0, 0]])

    def test_a_file_comes_where_it_is_packed_full(self):
        calls = [*thinned(10, [5, 5, 5, 5]), pack(), put(9, 0, 3)]
        # 9 stands between 0 and 1: a way with one new box changes two, and 1 or 0 is moved.
        self.assertEqual(told(*calls)[-1], [3, 2, 1, 1])
        self.assertEqual(row(calls), [(0, [0, 9]), (4, [1]), (1, [2, 3])])

    def test_a_file_grows_where_it_is_packed_full(self):
        calls = [*thinned(10, [5, 5, 5, 5]), pack(), grow(2, 6)]
        self.assertEqual(told(*calls)[-1], [3, 2, 1, 1])
        self.assertEqual(row(calls), [(0, [0, 1]), (1, [2]), (4, [3])])

    def test_a_file_goes(self):
        calls = [*thinned(10, [5, 5, 5, 5]), pack(), take(1)]
        self.assertEqual(told(*calls)[-1], [2, 1, 0, 0])
        self.assertEqual(row(calls), [(0, [0]), (1, [2, 3])])

    def test_a_new_shelf_behind_it(self):
        calls = [*thinned(10, [5, 5, 5, 5]), pack(), begin(4), count(), least(), pack(), put(1, 1, 4), where(1)]
        self.assertEqual(told(*calls)[-6:], [[0], [0, 0, 0, 0], [0], [0, 0, 0, 0], [1, 1, 0, 1], [0, 0, 0, 0, 0]])


if __name__ == "__main__":
    unittest.main()
