"""MAIN: all eleven calls, in every order, in one list, against a plain reckoning of the document's words."""

import random
import unittest
from itertools import product

from fewboxesdesk.shelf import answers
from reference import (Reference, begin, box_at, count, files_at, grow, least, pack, put, read, seek, take,
                       ways_by_search, where, written)

GREATEST = 36893488147419103231
TOO_GREAT = [16384, 2 ** 63, 2 ** 64 - 1, 2 ** 64, GREATEST]


class Draw:
    """Draws calls that mostly hit what stands there; now and then one that is refused."""

    def __init__(self, seed, rooms, most, keys, thick_part):
        self.rng = random.Random(seed)
        self.rooms, self.most, self.keys, self.thick_part = rooms, most, keys, thick_part

    def key(self):
        if self.rng.random() < 0.03:
            return self.rng.choice([0, 2 ** 64 - 1, 2 ** 64, GREATEST])
        return self.rng.randrange(self.keys)

    def file(self, there):
        if self.rng.random() < 0.03:
            return self.rng.choice([16383, *TOO_GREAT])
        if there and self.rng.random() < 0.9:
            return self.rng.choice(sorted(there))
        return self.rng.randrange(2 * self.most)

    def thick(self, room):
        if self.rng.random() < 0.03:
            return self.rng.choice([0, room, room + 1, GREATEST])
        return self.rng.randint(1, self.rng.choice([room, max(1, room // self.thick_part)]))

    def place(self, boxes):
        if self.rng.random() < 0.1:
            return self.rng.choice([boxes, boxes + 1, *TOO_GREAT])
        return self.rng.randrange(boxes + 1)

    def begin(self):
        if self.rng.random() < 0.3:
            return begin(self.rng.choice([0, 10001, GREATEST]))
        return begin(self.rng.choice(self.rooms))

    def put(self, there, room):
        free = [f for f in range(2 * self.most) if f not in there]
        if self.rng.random() < 0.05:
            return put(self.file(there), self.key(), self.thick(room))
        return put(self.rng.choice(free), self.key(), self.thick(room))

    def change(self, there, room):
        kind = self.rng.random()
        if len(there) < self.most and kind < 0.45:
            return self.put(there, room)
        if kind < 0.7:
            return grow(self.file(there), self.thick(room))
        if kind < 0.85:
            return take(self.file(there))
        if kind < 0.93:
            return pack()
        return self.put(there, room)

    def look(self, there, boxes):
        kind = self.rng.randrange(6)
        if kind == 0:
            return count()
        if kind == 1:
            return where(self.file(there))
        if kind == 2:
            return box_at(self.place(boxes))
        if kind == 3:
            return files_at(self.place(boxes))
        if kind == 4:
            return seek(self.key())
        return least()

    def call(self, reference):
        if reference.room is None and self.rng.random() < 0.5:
            return self.begin()
        there, boxes, room = {}, 0, 5
        if reference.room is not None:
            there, boxes, room = reference.files, len(reference.boxes), reference.room
        if self.rng.random() < 0.004:
            return self.begin()
        if self.rng.random() < 0.6:
            return self.change(there, room)
        return self.look(there, boxes)


class LongRows(unittest.TestCase):
    def rows_are_answered_by_the_words(self, seeds, length, rooms, most, keys, thick_part):
        """Gives back how often each number was answered first, call by call: to see what was drawn."""
        drawn = {}
        for seed in seeds:
            draw = Draw(seed, rooms, most, keys, thick_part)
            reference = Reference(ways_by_search)
            calls, wanted = [], []
            while len(calls) < length:
                calls.append(draw.call(reference))
                wanted.append(reference.answer(calls[-1]))
                kind = (calls[-1][0], min(wanted[-1][0], 0))
                drawn[kind] = drawn.get(kind, 0) + 1
            # As they follow one another in one list; only the first difference is shown.
            given = read(answers(written(calls)))
            self.assertEqual(len(given), length)
            for at in range(length):
                self.assertEqual(given[at], wanted[at], (seed, at, calls[at]))
        return drawn

    def test_short_lists(self):
        drawn = self.rows_are_answered_by_the_words(range(400), 25, [1, 2, 3, 5, 10], 6, 5, 2)
        kinds = {(1, 0), (1, -1), *((call, 0) for call in range(2, 12)), *((call, -9) for call in range(2, 12))}
        kinds |= {(call, -1) for call in (2, 3, 4, 6, 9)} | {(call, -4) for call in (3, 4, 6, 7, 8)} | {(2, -8)}
        self.assertEqual(kinds - set(drawn), set())

    def test_1000_calls_in_small_rooms(self):
        self.rows_are_answered_by_the_words(range(6), 1000, [1, 2, 3, 4, 5], 9, 6, 2)

    def test_1000_calls_where_keys_are_equal(self):
        self.rows_are_answered_by_the_words(range(4), 1000, [3, 6, 10], 12, 2, 3)
        self.rows_are_answered_by_the_words(range(4), 1000, [3, 6, 10], 12, 1, 3)

    def test_1000_calls_with_32_files(self):
        drawn = self.rows_are_answered_by_the_words(range(3), 1000, [12, 20], 32, 40, 3)
        self.assertGreater(drawn[(2, -6)], 10)

    def test_1000_calls_with_32_files_in_boxes_of_one_or_two(self):
        self.rows_are_answered_by_the_words(range(1), 1000, [2], 32, 40, 1)

    def test_1000_calls_with_32_files_in_a_great_room(self):
        self.rows_are_answered_by_the_words(range(2), 1000, [10000], 32, 2 ** 64, 4)


class EveryOrder(unittest.TestCase):
    def test_any_three_calls_behind_one_another(self):
        start = [begin(4), put(1, 5, 3), put(2, 5, 2), put(3, 7, 4), grow(3, 1)]
        some = [begin(3), put(4, 5, 3), take(2), grow(1, 4), grow(2, 1), count(), where(2), box_at(1), files_at(1),
                seek(6), least(), pack(), put(1, 1, 1), take(9)]
        looks = [where(f) for f in (1, 2, 3, 4)] + [box_at(at) for at in range(4)] + [files_at(at) for at in range(4)]
        for three in product(some, repeat=3):
            calls = [*start, *three, count(), least(), seek(5), seek(7), *looks]
            reference = Reference()
            wanted = [reference.answer(call) for call in calls]
            self.assertEqual(read(answers(written(calls))), wanted, three)


if __name__ == "__main__":
    unittest.main()
