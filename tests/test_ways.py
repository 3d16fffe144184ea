"""E2: of ALL ways the one taken changes the fewest boxes, of these moves the fewest files, of these is the first.

Rows of calls are answered by the program and by the document's words done the long way.
"""

import random
import unittest
from unittest import mock

from fewboxesdesk import shelf
from fewboxesdesk.shelf import answers
from reference import Reference, begin, count, grow, pack, put, read, take, ways_by_search, where, written


def looked_at(calls, there):
    """The same calls, and behind each that changes something where each file stands then."""
    return calls + [where(f) for f in sorted(there)] + [count()]


def mixed_row(rng, most, steps, room, thick):
    """Files come, go and grow anywhere; few keys, so that many are equal."""
    keys = rng.choice([1, 3, 8, 2 ** 64])
    there = set()
    calls = [begin(room)]
    for step in range(steps):
        kind = rng.random()
        if not there or (kind < 0.5 and len(there) < most):
            f = rng.choice([g for g in range(12) if g not in there])
            there.add(f)
            calls.append(put(f, rng.randrange(keys), rng.randint(1, thick)))
        elif kind < 0.8:
            calls.append(grow(rng.choice(sorted(there)), rng.randint(1, rng.choice([thick, room]))))
        else:
            f = rng.choice(sorted(there))
            there.discard(f)
            calls.append(take(f))
        calls = looked_at(calls, there)
    return calls


def crowded_row(rng, most, steps, room, thick):
    """Boxes are filled from the front, so that none has room; then files come and grow between the others."""
    calls = [begin(room)]
    there = {}
    for f in range(0, 2 * (most - 1), 2):
        there[f] = 1
        calls.append(put(f, f // 4, rng.randint(1, thick)))
    for step in range(steps):
        if len(there) < most:
            f = rng.choice([g for g in range(1, 2 * most, 2) if g not in there])
            there[f] = 1
            calls.append(put(f, rng.randint(0, most // 2), rng.randint(1, room)))
        else:
            f = rng.choice(sorted(there))
            if rng.random() < 0.5:
                calls.append(grow(f, rng.randint(1, room)))
            else:
                del there[f]
                calls.append(take(f))
        calls = looked_at(calls, there)
    return calls


def packed_row(rng, most, steps, room, thick):
    """Boxes stand with one file each and are packed; then files come, go and grow, now and then packed again."""
    there = set(range(0, 2 * (most - 2), 2))
    calls = [begin(room)] + [put(f, f // 4, room) for f in sorted(there)]
    calls += [grow(f, rng.randint(1, thick)) for f in sorted(there)] + [pack()]
    for step in range(steps):
        kind = rng.random()
        if kind < 0.35 and len(there) < most:
            f = rng.choice([g for g in range(2 * most) if g not in there])
            there.add(f)
            calls.append(put(f, rng.randint(0, most // 2), rng.randint(1, thick)))
        elif kind < 0.75:
            calls.append(grow(rng.choice(sorted(there)), rng.randint(1, room)))
        elif kind < 0.85 and len(there) > 1:
            f = rng.choice(sorted(there))
            there.discard(f)
            calls.append(take(f))
        else:
            calls.append(pack())
        calls = looked_at(calls, there)
    return calls


class OfAllWays(unittest.TestCase):
    def rows_are_answered_by_the_words(self, make_row, seed, rows, most, steps, rooms):
        ties = many_changed = 0
        for number in range(rows):
            rng = random.Random(seed * 100003 + number)
            room = rng.choice(rooms)
            calls = make_row(rng, most, steps, room, rng.choice([1, max(1, room // 3), max(1, room // 2), room]))
            reference = Reference()
            wanted = [reference.answer(call) for call in calls]
            given = read(answers(written(calls)))
            self.assertEqual(len(given), len(wanted))
            for at, call in enumerate(calls):
                self.assertEqual(given[at], wanted[at], (calls[:at + 1], call))
            ties += reference.ties
            many_changed += reference.many_changed
        return ties, many_changed

    def test_small_mixed_rows(self):
        ties, many = self.rows_are_answered_by_the_words(mixed_row, 1, 150, 5, 25, (1, 2, 3, 4, 5, 7, 10))
        self.assertGreater(ties, 100)
        self.assertGreater(many, 200)

    def test_small_crowded_rows(self):
        ties, many = self.rows_are_answered_by_the_words(crowded_row, 2, 200, 6, 12, (2, 3, 4, 5, 6, 8, 10, 12))
        self.assertGreater(ties, 200)
        self.assertGreater(many, 300)

    def test_tight_rows_of_more_boxes(self):
        ties, many = self.rows_are_answered_by_the_words(crowded_row, 3, 12, 8, 8, (2, 3, 4))
        self.assertGreater(ties, 5)
        self.assertGreater(many, 10)

    def test_mixed_rows_of_more_boxes(self):
        ties, many = self.rows_are_answered_by_the_words(mixed_row, 4, 12, 7, 25, (2, 3, 4, 6))
        self.assertGreater(ties, 5)
        self.assertGreater(many, 10)


    def test_rows_that_are_packed(self):
        ties, many = self.rows_are_answered_by_the_words(packed_row, 5, 150, 6, 12, (2, 3, 4, 5, 6, 8, 10, 12))
        self.assertGreater(ties, 100)
        self.assertGreater(many, 150)

    def test_the_search_of_the_whole_row_finds_the_first_of_all_ways(self):
        # The long rows are measured by this search, so it is measured by the words itself.
        for number in range(120):
            rng = random.Random(number)
            room = rng.choice((1, 2, 3, 5, 8, 10))
            make_row = rng.choice([mixed_row, crowded_row, packed_row])
            calls = make_row(rng, 5, 12, room, rng.choice([1, max(1, room // 2), room]))
            by_words, by_search = Reference(), Reference(ways_by_search)
            for call in calls:
                self.assertEqual(by_search.answer(call), by_words.answer(call), calls)


class NearTheFile(unittest.TestCase):
    def test_a_search_of_the_whole_row_takes_the_same_ways(self):
        for number in range(25):
            rng = random.Random(number)
            room = rng.choice([1, 2, 3, 4, 6, 8, 10, 12, 30, 10000])
            calls = [begin(room)]
            there = set()
            for step in range(60):
                f = rng.randrange(48)
                if f in there and rng.random() < 0.4:
                    calls.append(take(f))
                    there.discard(f)
                elif f in there:
                    calls.append(grow(f, rng.randint(1, rng.choice([room, (room + 2) // 3]))))
                elif len(there) < 32:
                    calls.append(put(f, f // 3, rng.randint(1, rng.choice([room, (room + 2) // 3]))))
                    there.add(f)
            calls = written(looked_at(calls, there))
            near = read(answers(calls))
            with mock.patch.object(shelf, "REACH", 32):
                far = read(answers(calls))
            self.assertEqual(len(near), len(far))
            for told, wanted in zip(near, far):
                self.assertEqual(told, wanted)


class OfAsFewTheFirst(unittest.TestCase):
    def taken(self, calls, files):
        """What the last call answers, and of each file: its box's number, and which box in the row."""
        given = read(answers(written(calls + [where(f) for f in files])))
        return given[len(calls) - 1], [told[1:3] for told in given[len(calls):]]

    def test_the_box_in_front_of_two_that_have_room(self):
        # 2 fits box 0, box 1 and a new one between: each 1 changed, 0 moved.
        calls = [begin(10), put(1, 10, 4), put(3, 30, 10), grow(3, 4), put(2, 20, 3)]
        self.assertEqual(self.taken(calls, [1, 2, 3]), ([2, 1, 0, 0], [[0, 0], [0, 0], [1, 1]]))

    def test_the_box_behind_before_a_new_one(self):
        # 1 fits box 0 and a new one before it: with two files the box in front is the first.
        calls = [begin(10), put(2, 20, 4), put(1, 10, 4)]
        self.assertEqual(self.taken(calls, [1, 2]), ([1, 1, 0, 0], [[0, 0], [0, 0]]))

    def test_of_as_many_files_the_old_box_before_the_new_one(self):
        # One of 1 and 2 stays in box 0, the other one is moved: 2 changed either way.
        calls = [begin(10), put(1, 10, 5), put(2, 20, 5), grow(1, 6)]
        self.assertEqual(self.taken(calls, [1, 2]), ([2, 2, 1, 1], [[0, 0], [1, 1]]))

    def test_more_files_in_front_of_four_ways_that_cost_as_much(self):
        # 9 comes between 1 and 2 and stands with either; either stays in box 0: 2 changed, 1 moved each time.
        calls = [begin(10), put(1, 10, 4), put(2, 20, 4), put(9, 15, 5)]
        self.assertEqual(self.taken(calls, [1, 9, 2]), ([2, 2, 1, 1], [[0, 0], [0, 0], [1, 1]]))


if __name__ == "__main__":
    unittest.main()
