"""The interface: many calls in one list, and what is given back."""

import copy
import unittest

from manyhandsdesk.gathering import answers
from tests.helper import (ALL, answered, book_octets, collection_octets, join, lacking, list_of, new, open_book, put,
                          record, record_octets, take, told, whole)

BOOK = book_octets([(2, 0, 0)], [[[1]]])
ONE = record_octets(1, 1)
TWO = record_octets(1, 2, place=(3, 4))


def many_calls():
    calls = [list_of(0, 0), open_book(BOOK), open_book(BOOK[:-1]), new(0), new(1), put(ONE), put(ONE[:-1]),
             join(collection_octets(1, [TWO])), join(collection_octets(2, [])), lacking(collection_octets(1, [ONE])),
             record(1, 1), record(1, 3), list_of(0, 0), list_of(0, 0, (3,)), take(collection_octets(1, [TWO])),
             whole()]
    return [number for call in calls for number in call]


class NoCollection(unittest.TestCase):
    def test_every_call_ahead_of_new_or_take(self):
        empty = collection_octets(1, [])
        for call in (put(ONE), put([]), join(empty), join([]), lacking(empty), lacking([]), record(1, 1),
                     record(ALL, ALL), list_of(0, 0), list_of(1, 0), list_of(0, 0, (0,))):
            self.assertEqual(answered(call), [[-9]])
            self.assertEqual(answered(open_book(BOOK), call), [[0], [-9]])
            self.assertEqual(answered(new(0), take([1]), call, new(1)), [[-1], [-5, 1, 0], [-9], [0]])

    def test_none_needed(self):
        self.assertEqual(answered(open_book(BOOK)), [[0]])
        self.assertEqual(answered(new(1)), [[0]])
        self.assertEqual(answered(take(collection_octets(1, []))), [[0]])


class OneList(unittest.TestCase):
    def test_how_many_numbers_then_these(self):
        self.assertEqual(answers(new(1)), [1, 0])
        self.assertEqual(answers(new(0)), [1, -1])
        self.assertEqual(answers(take([])), [3, -5, 5, 0])
        self.assertEqual(answers(new(1) + put(ONE) + record(1, 1)), [1, 0, 1, 0, len(ONE) + 2, 0, len(ONE)] + ONE)
        self.assertEqual(answers(new(1) + put(ONE) + list_of(0, 0)), [1, 0, 1, 0, 4, 0, 2, 1, 1])
        empty = collection_octets(1, [])
        self.assertEqual(answers(new(1) + lacking(empty)), [1, 0, 12, 0, 10] + empty)

    def test_several_calls(self):
        expected = [[-9], [0], [-5, 1, 4], [-1], [0], [0], [-5, 5, 38], [0], [-2], told(collection_octets(1, [TWO])),
                    told(ONE), [-2], [0, 4, 1, 1, 1, 2], [0, 2, 1, 2], [0], told(collection_octets(1, [TWO]))]
        row = []
        for answer in expected:
            row += [len(answer)] + answer
        self.assertEqual(answers(many_calls()), row)

    def test_300_calls(self):
        calls = [new(1)] + [put(record_octets(k % 7, k)) for k in range(298)] + [list_of(0, 0)]
        row = answered(*calls)
        self.assertEqual(row[:299], [[0]] * 299)
        names = sorted([k % 7, k] for k in range(298))
        self.assertEqual(row[299], [0, 596] + [number for name in names for number in name])

    def test_longest_list(self):
        octets = collection_octets(28, [record_octets(1, k, sets=(k + 1,) * 28) for k in range(60)])
        self.assertEqual(len(octets), 15310)
        self.assertEqual(answered(take(octets), list_of(0, 0))[1][:2], [0, 120])

    def test_whole_numbers_alone(self):
        row = answers(many_calls())
        self.assertIs(type(row), list)
        self.assertEqual({type(number) for number in row}, {int})


class NothingKept(unittest.TestCase):
    def test_what_is_handed_in_is_not_changed(self):
        calls = many_calls()
        before = copy.copy(calls)
        answers(calls)
        self.assertEqual(calls, before)

    def test_twice_the_same(self):
        self.assertEqual(answers(many_calls()), answers(many_calls()))

    def test_no_collection_from_the_time_before(self):
        self.assertEqual(answers(new(1) + put(ONE)), [1, 0, 1, 0])
        self.assertEqual(answers(record(1, 1)), [1, -9])
        self.assertEqual(answers(new(1) + list_of(0, 0)), [1, 0, 2, 0, 0])

    def test_what_is_given_back_is_the_callers_own(self):
        calls = new(1) + put(ONE) + record(1, 1)
        first = answers(calls)
        first[-1] = 77
        self.assertEqual(answers(calls)[-1], ONE[-1])


class RefusalsChangeNothing(unittest.TestCase):
    def test_each(self):
        there = collection_octets(1, [ONE, TWO])
        refused = [open_book([]), new(0), new(257), take([]), take(there + [0]), put([]), put(ONE + [0]),
                   join(there[:-1]), join(collection_octets(2, [])), lacking([]), lacking(collection_octets(3, [])),
                   record(9, 9), list_of(2, 1), list_of(0, 0, (0,))]
        for call in refused:
            row = answered(take(there), call, whole(), list_of(0, 0))
            self.assertLess(row[1][0], 0)
            self.assertEqual(row[2:], [told(there), [0, 4, 1, 1, 1, 2]])


if __name__ == "__main__":
    unittest.main()
