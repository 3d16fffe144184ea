"""The document's run, number by number, as far as the six calls go."""

import unittest

from fewboxesdesk.shelf import answers
from reference import begin, count, grow, put, read, take, where, written

RUN = [
    (begin(10), [0]),
    (put(1, 10, 6), [1, 1, 0, 1]),
    (where(1), [0, 0, 0, 0, 0]),
    (put(2, 20, 4), [1, 1, 0, 0]),
    (where(1), [0, 0, 0, 0, 0]),
    (where(2), [0, 0, 0, 1, 6]),
    (put(3, 30, 5), [2, 1, 0, 1]),
    (where(3), [0, 1, 1, 0, 0]),
    (put(4, 15, 3), [2, 2, 1, 0]),
    (where(1), [0, 0, 0, 0, 0]),
    (where(4), [0, 0, 0, 1, 6]),
    (where(2), [0, 1, 1, 0, 0]),
    (where(3), [0, 1, 1, 1, 4]),
    (put(5, 40, 9), [3, 1, 0, 1]),
    (where(5), [0, 2, 2, 0, 0]),
    (grow(4, 5), [4, 2, 1, 1]),
    (where(1), [0, 0, 0, 0, 0]),
    (where(4), [0, 3, 1, 0, 0]),
    (where(2), [0, 1, 2, 0, 0]),
    (where(3), [0, 1, 2, 1, 4]),
    (where(5), [0, 2, 3, 0, 0]),
    (take(5), [3, 1, 0, 0]),
    (where(5), [-4]),
    (count(), [3, 4, 20, 4]),
]


class Run(unittest.TestCase):
    def test_every_answer_is_the_documents(self):
        told = read(answers(written([call for call, answer in RUN])))
        self.assertEqual(len(told), len(RUN))
        for given, (call, answer) in zip(told, RUN):
            with self.subTest(call=call):
                self.assertEqual(given, answer)

    def test_the_list_given_back_number_by_number(self):
        calls = written([begin(10), put(1, 10, 6), where(1), take(2), count()])
        self.assertEqual(answers(calls), [1, 0, 4, 1, 1, 0, 1, 5, 0, 0, 0, 0, 0, 1, -4, 4, 1, 1, 6, 1])


if __name__ == "__main__":
    unittest.main()
