"""The document's run, whole, number by number."""

import unittest

from fewboxesdesk.shelf import answers
from reference import begin, box_at, count, files_at, grow, least, pack, put, read, seek, take, where, written

RUN = [
    (begin(10), [0]),
    (put(1, 10, 6), [1, 1, 0, 1]),
    (where(1), [0, 0, 0, 0, 0]),
    (put(2, 20, 4), [1, 1, 0, 0]),
    (where(1), [0, 0, 0, 0, 0]),
    (where(2), [0, 0, 0, 1, 6]),
    (box_at(0), [2, 0, 1, 0]),
    (files_at(0), [2, 1, 2]),
    (put(3, 30, 5), [2, 1, 0, 1]),
    (where(3), [0, 1, 1, 0, 0]),
    (box_at(1), [1, 1, 3, 5]),
    (put(4, 15, 3), [2, 2, 1, 0]),
    (where(1), [0, 0, 0, 0, 0]),
    (where(4), [0, 0, 0, 1, 6]),
    (where(2), [0, 1, 1, 0, 0]),
    (where(3), [0, 1, 1, 1, 4]),
    (files_at(0), [2, 1, 4]),
    (files_at(1), [2, 2, 3]),
    (put(5, 40, 9), [3, 1, 0, 1]),
    (where(5), [0, 2, 2, 0, 0]),
    (box_at(2), [1, 2, 5, 1]),
    (grow(4, 5), [4, 2, 1, 1]),
    (where(1), [0, 0, 0, 0, 0]),
    (where(4), [0, 3, 1, 0, 0]),
    (where(2), [0, 1, 2, 0, 0]),
    (where(3), [0, 1, 2, 1, 4]),
    (where(5), [0, 2, 3, 0, 0]),
    (box_at(0), [1, 0, 1, 4]),
    (files_at(0), [1, 1]),
    (box_at(1), [1, 3, 4, 5]),
    (files_at(1), [1, 4]),
    (box_at(2), [2, 1, 2, 1]),
    (files_at(2), [2, 2, 3]),
    (box_at(3), [1, 2, 5, 1]),
    (files_at(3), [1, 5]),
    (take(5), [3, 1, 0, 0]),
    (where(5), [-4]),
    (box_at(3), [-4]),
    (least(), [3]),
    (count(), [3, 4, 20, 4]),
    (pack(), [3, 2, 1, 0]),
    (box_at(0), [1, 0, 1, 4]),
    (files_at(0), [1, 1]),
    (box_at(1), [2, 3, 4, 1]),
    (files_at(1), [2, 4, 2]),
    (box_at(2), [1, 1, 3, 5]),
    (files_at(2), [1, 3]),
    (where(2), [0, 3, 1, 1, 5]),
    (count(), [3, 4, 20, 4]),
    (seek(16), [2, 1]),
]


class Run(unittest.TestCase):
    def test_every_answer_is_the_documents(self):
        told = read(answers(written([call for call, answer in RUN])))
        self.assertEqual(len(told), len(RUN))
        for given, (call, answer) in zip(told, RUN):
            with self.subTest(call=call):
                self.assertEqual(given, answer)

    def test_the_run_without_a_look_between(self):
        calls = [begin(10), put(1, 10, 6), put(2, 20, 4), put(3, 30, 5), put(4, 15, 3), put(5, 40, 9), grow(4, 5),
                 take(5), least(), count(), pack(), seek(16)]
        self.assertEqual(read(answers(written(calls))),
                         [[0], [1, 1, 0, 1], [1, 1, 0, 0], [2, 1, 0, 1], [2, 2, 1, 0], [3, 1, 0, 1], [4, 2, 1, 1],
                          [3, 1, 0, 0], [3], [3, 4, 20, 4], [3, 2, 1, 0], [2, 1]])

    def test_the_list_given_back_number_by_number(self):
        calls = written([begin(10), put(1, 10, 6), where(1), take(2), count(), box_at(0), files_at(0), files_at(1),
                         seek(9), seek(11), least(), pack()])
        self.assertEqual(answers(calls), [1, 0, 4, 1, 1, 0, 1, 5, 0, 0, 0, 0, 0, 1, -4, 4, 1, 1, 6, 1,
                                          4, 1, 0, 1, 4, 2, 1, 1, 1, -4, 2, 0, 0, 2, 1, -1, 1, 1, 4, 1, 0, 0, 0])


if __name__ == "__main__":
    unittest.main()
