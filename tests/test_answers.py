"""The interface: the list handed in, the list given back, nothing kept between, and long lists."""

import builtins
import contextlib
import io
import random
import sys
import unittest
from unittest import mock

from fewboxesdesk.shelf import answers
from reference import begin, box_at, count, files_at, grow, least, pack, put, read, seek, take, where, written

CALLS = written([begin(10), put(1, 10, 6), put(2, 20, 4), put(3, 30, 5), put(4, 15, 3), put(5, 40, 9), grow(4, 5),
                 take(5), where(3), count(), where(16384), put(1, 1, 1), box_at(0), files_at(1), least(), seek(16),
                 pack(), files_at(1), box_at(2 ** 65 - 1), seek(2 ** 64), begin(2 ** 65 - 1), begin(3), count(), pack(),
                 least()])


class OnlyRead(list):
    """A list that may be read, but in which nothing may be changed, not for a while either."""

    def refuse(self, *given, **named):
        raise AssertionError("what is handed in is changed")

    __setitem__ = __delitem__ = __iadd__ = __imul__ = refuse
    append = clear = extend = insert = pop = remove = reverse = sort = refuse


class NothingToRead:
    def __getattr__(self, name):
        raise AssertionError("the input is touched")


class TheInterface(unittest.TestCase):
    def test_the_empty_list(self):
        self.assertEqual(answers([]), [])

    def test_the_list_handed_in_is_as_it_was(self):
        calls = list(CALLS)
        answers(calls)
        self.assertEqual(calls, CALLS)

    def test_the_list_handed_in_is_not_changed_for_a_while_either(self):
        self.assertEqual(answers(OnlyRead(CALLS)), answers(CALLS))

    def test_it_gives_back_a_plain_list_of_whole_numbers(self):
        given = answers(CALLS)
        self.assertIs(type(given), list)
        self.assertEqual({type(number) for number in given}, {int})

    def test_it_gives_back_a_list_of_its_own(self):
        calls = list(CALLS)
        given = answers(calls)
        wanted = list(given)
        given.clear()
        self.assertEqual(answers(calls), wanted)
        self.assertEqual(calls, CALLS)

    def test_two_calls_know_nothing_of_each_other(self):
        wanted = answers(CALLS)
        self.assertEqual(answers(written([count(), where(1), put(1, 1, 1)])), [1, -9, 1, -9, 1, -9])
        self.assertEqual(answers(written([box_at(0), files_at(0), seek(0), least(), pack()])), [1, -9] * 5)
        answers(written([begin(7), put(1, 1, 7), put(2, 2, 7), grow(1, 1), grow(2, 1), pack()]))
        self.assertEqual(answers(CALLS), wanted)
        self.assertEqual(answers(written([begin(7), count()])), [1, 0, 4, 0, 0, 0, 0])
        self.assertEqual(answers([]), [])

    def test_the_greatest_numbers_that_are_handed_in(self):
        most = 36893488147419103231
        calls = [begin(most), begin(10000), put(most, 1, 1), put(1, most, 1), put(1, 1, most), put(most, most, most),
                 take(most), grow(most, most), grow(1, most), where(most), put(1, 1, 1), grow(1, most), seek(most),
                 box_at(most), files_at(most), count()]
        self.assertEqual(read(answers(written(calls))),
                         [[-1], [0]] + [[-1]] * 8 + [[1, 1, 0, 1], [-1], [-1], [-4], [-4], [1, 1, 1, 1]])

    def test_it_prints_reads_and_imports_nothing(self):
        wanted = answers(CALLS)
        out, err = io.StringIO(), io.StringIO()
        refuse = mock.Mock(side_effect=AssertionError("something is imported or opened"))
        with contextlib.redirect_stdout(out), contextlib.redirect_stderr(err), \
                mock.patch.object(sys, "stdin", NothingToRead()), mock.patch.object(builtins, "open", refuse), \
                mock.patch.object(builtins, "__import__", refuse):
            given = answers(CALLS)
        self.assertEqual((given, out.getvalue(), err.getvalue()), (wanted, "", ""))


class LongLists(unittest.TestCase):
    def full_shelf(self, room, thick):
        return [begin(room)] + [put(f, 7 * f, thick(f)) for f in range(32)]

    def stands_as_promised(self, room, calls):
        """E1 on what stands there behind the calls: keys and thicknesses are gathered from the calls alone."""
        keys, thick = {}, {}
        given = read(answers(written(calls)))
        for call, told in zip(calls, given):
            if told[0] >= 0 and call[0] == 2:
                keys[call[1]], thick[call[1]] = call[2], call[3]
            elif told[0] >= 0 and call[0] == 3:
                del keys[call[1]], thick[call[1]]
            elif told[0] >= 0 and call[0] == 4:
                thick[call[1]] = call[2]
        files = sorted(keys, key=lambda f: (keys[f], f))
        places = read(answers(written(calls + [where(f) for f in files] + [count()])))[len(calls):]
        at, index, before, numbers = 0, 0, 0, {}
        for spot, (f, (zero, number, *place)) in enumerate(zip(files, places)):
            if spot and place[0] == at + 1:
                at, index, before = at + 1, 0, 0
            self.assertEqual([zero, *place], [0, at, index, before])
            self.assertEqual(numbers.setdefault(at, number), number)
            index, before = index + 1, before + thick[f]
            self.assertLessEqual(before, room)
        self.assertEqual(len(set(numbers.values())), len(numbers))
        self.assertEqual(places[-1][:3], [len(numbers), len(files), sum(thick.values())])
        self.assertTrue(all(number < places[-1][3] for number in numbers.values()))
        return given

    def answered_to_its_end(self, room, thick, change):
        calls = self.full_shelf(room, thick)
        while len(calls) < 1000 - 33:
            calls.append(change(len(calls)))
        given = self.stands_as_promised(room, calls)
        self.assertEqual(len(given), len(calls))
        given = read(answers(written(calls + [where(f) for f in range(32)] + [count()])))
        self.assertEqual(len(given), 1000)

    def test_1000_calls_that_grow_files_on_a_shelf_with_32(self):
        rng = random.Random(5)
        self.answered_to_its_end(12, lambda f: 3, lambda n: grow(rng.randrange(32), rng.randint(1, 12)))

    def test_1000_calls_that_take_and_put_on_a_shelf_with_32(self):
        rng = random.Random(6)
        self.answered_to_its_end(
            9, lambda f: 1 + f % 5,
            lambda n: take(rng.randrange(32)) if n % 2 else put(rng.randrange(32), rng.randrange(200), rng.randint(1, 9)))

    def test_1000_calls_where_all_files_fit_all_boxes(self):
        self.answered_to_its_end(10000, lambda f: 1600, lambda n: grow(n % 32, 1 + n % 3))

    def test_1000_calls_in_boxes_of_one_file(self):
        self.answered_to_its_end(1, lambda f: 1, lambda n: take(n % 32) if n % 2 else put((n - 1) % 32, 200 - n % 100, 1))

    def test_1000_refusals(self):
        # Not assertEqual: to show how two lists of this length differ takes it minutes.
        self.assertTrue(answers(written([count()] * 1000)) == [1, -9] * 1000)


if __name__ == "__main__":
    unittest.main()
