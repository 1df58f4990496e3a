"""The interface: many calls in one list, and what is given back."""

import copy
import time
import unittest

from manyhandsdesk.gathering import answers
from tests.helper import (ALL, answered, book_octets, bytes_of, collection_octets, count, join, kinds, lacking, list_of,
                          new, odd, open_book, part, put, record, record_octets, table, take, tally, told, where, whole)

BOOK = book_octets([(2, 0, 0)], [[[1]]])
ONE = record_octets(1, 1)
TWO = record_octets(1, 2, place=(3, 4))


def many_calls():
    calls = [list_of(0, 0), open_book(BOOK), open_book(BOOK[:-1]), new(0), new(1), put(ONE), put(ONE[:-1]),
             join(collection_octets(1, [TWO])), join(collection_octets(2, [])), lacking(collection_octets(1, [ONE])),
             record(1, 1), record(1, 3), list_of(0, 0), list_of(0, 0, (3,)), take(collection_octets(1, [TWO])),
             whole(), part(0, 0), kinds(1, 2), count(0, 0, 0), table(0, 0), odd(), where(0), bytes_of(), tally()]
    return [number for call in calls for number in call]


def longest_calls():
    """300 calls of nearly 16000 numbers: 16 characters of 64 states in a chain, 24 kinds, all the records that fit."""
    characters = [(64, 0, 0)] + [(64, k, ALL - 1 - (1 << k)) for k in range(1, 16)]
    forms = [[ALL ^ 1 << k + j for j in range(16)] for k in range(24)]
    records = [record_octets(1, k, errors=16, sets=[1 << (k * 7 + j * 5) % 64 for j in range(16)]) for k in range(76)]
    calls = [open_book(book_octets(characters, [[form] for form in forms])), take(collection_octets(16, records[:60]))]
    calls += [put(octets) for octets in records[60:]]
    asked = [kinds(1, k) for k in range(20)] + [where(23)] * 20 + [table(0, 0)] * 20 + [tally()]
    return calls + [odd()] * (300 - len(calls) - len(asked)) + asked


def refuse_change(*arguments):
    raise AssertionError("what was handed in is changed")


class Unchanging(list):
    """A list that fails when it is changed."""

    append = extend = insert = pop = remove = clear = sort = reverse = refuse_change
    __setitem__ = __delitem__ = __iadd__ = __imul__ = refuse_change


class NoCollection(unittest.TestCase):
    def test_every_call_ahead_of_new_or_take(self):
        empty = collection_octets(1, [])
        for call in (put(ONE), put([]), join(empty), join([]), lacking(empty), lacking([]), record(1, 1),
                     record(ALL, ALL), list_of(0, 0), list_of(1, 0), list_of(0, 0, (0,)), part(0, 0), kinds(1, 1),
                     count(0, 0, 0), table(0, 0), odd(), where(0), bytes_of(), tally()):
            self.assertEqual(answered(call), [[-9]])
            self.assertEqual(answered(open_book(BOOK), call), [[0], [-9]])
            self.assertEqual(answered(new(0), take([1]), call, new(1)), [[-1], [-5, 1, 0], [-9], [0]])

    def test_none_needed(self):
        self.assertEqual(answered(open_book(BOOK)), [[0]])
        self.assertEqual(answered(new(1)), [[0]])
        self.assertEqual(answered(take(collection_octets(1, []))), [[0]])


class OneList(unittest.TestCase):
    def test_how_many_numbers_then_these(self):
        self.assertEqual(answers(new(1)), [1, 0])
        self.assertEqual(answers(new(0)), [1, -1])
        self.assertEqual(answers(take([])), [3, -5, 5, 0])
        self.assertEqual(answers(new(1) + put(ONE) + record(1, 1)), [1, 0, 1, 0, len(ONE) + 2, 0, len(ONE)] + ONE)
        self.assertEqual(answers(new(1) + put(ONE) + list_of(0, 0)), [1, 0, 1, 0, 4, 0, 2, 1, 1])
        empty = collection_octets(1, [])
        self.assertEqual(answers(new(1) + lacking(empty)), [1, 0, 12, 0, 10] + empty)

    def test_several_calls(self):
        expected = [[-9], [0], [-5, 1, 4], [-1], [0], [0], [-5, 5, 38], [0], [-2], told(collection_octets(1, [TWO])),
                    told(ONE), [-2], [0, 4, 1, 1, 1, 2], [0, 2, 1, 2], [0], told(collection_octets(1, [TWO])),
                    told(collection_octets(1, [TWO])), [0, 2, 0, 0], [0, 1, 1], [0, 3, 0, 1, 1], [0, 0],
                    [0, 1, 2, 3, 4, 1], told(collection_octets(1, [TWO])), [0, 1, 1]]
        row = []
        for answer in expected:
            row += [len(answer)] + answer
        self.assertEqual(answers(many_calls()), row)

    def test_300_calls(self):
        calls = [new(1)] + [put(record_octets(k % 7, k)) for k in range(298)] + [list_of(0, 0)]
        row = answered(*calls)
        self.assertEqual(row[:299], [[0]] * 299)
        names = sorted([k % 7, k] for k in range(298))
        self.assertEqual(row[299], [0, 596] + [number for name in names for number in name])

    def test_300_calls_of_all_sorts(self):
        calls = [open_book(BOOK), new(1)]
        for k in range(59):
            calls += [put(record_octets(1, k, sets=(1 + k % 3,))), count(0, 0, 0), odd(), where(0), tally()]
        calls += [table(0, 0), kinds(1, 2), part(0, 0)]
        row = answered(*calls)
        self.assertEqual((len(calls), len(row)), (300, 300))
        # Of three records one has the kind's state, one another state, one both.
        of_kind = len([k for k in range(59) if k % 3 != 1])
        of_none = [number for k in range(59) if k % 3 == 1 for number in (1, k)]
        self.assertEqual(row[-7:-3], [[0, of_kind, of_kind], [0, len(of_none)] + of_none, [0, 1, 0, 1], [0, 1, 59]])
        self.assertEqual(row[-3:-1], [[0, 3, 0, of_kind, of_kind], [0, 2, 0, 0]])

    def test_longest_list(self):
        octets = collection_octets(28, [record_octets(1, k, sets=(k + 1,) * 28) for k in range(60)])
        self.assertEqual(len(octets), 15310)
        self.assertEqual(answered(take(octets), list_of(0, 0))[1][:2], [0, 120])

    def test_widest_book_and_as_many_records_as_fit(self):
        calls = longest_calls()
        start = time.perf_counter()
        row = answered(*calls)
        seconds = time.perf_counter() - start
        self.assertLess(seconds, 5)
        self.assertEqual(len(calls), 300)
        self.assertTrue(15800 < sum(len(call) for call in calls) <= 16000)
        self.assertEqual([answer[0] for answer in row], [0] * 300)
        # With an error for each character every record may be of every kind.
        self.assertEqual(row[-2:], [[0, 72] + [n for kind in range(24) for n in (kind, 0, 76)], [0, 16, 76]])

    def test_as_many_forms_as_fit(self):
        characters = [(64, 0, 0)] + [(64, k, ALL - 1) for k in range(1, 16)]
        of_book = [[[ALL ^ 1 << k + j for j in range(16)] for k in range(first, first + 16)] for first in (0, 8, 16, 24)]
        records = [record_octets(1, k, sets=[1 << (k + j) % 63 + 1 for j in range(16)]) for k in range(44)]
        calls = [open_book(book_octets(characters, of_book)), take(collection_octets(16, records))] + [odd()] * 298
        self.assertTrue(15700 < sum(len(call) for call in calls) <= 16000)
        start = time.perf_counter()
        row = answered(*calls)
        self.assertLess(time.perf_counter() - start, 5)
        # Each record has the states of a form: one that leaves out none of them.
        self.assertEqual(row, [[0], [0]] + [[0, 0]] * 298)

    def test_whole_numbers_alone(self):
        row = answers(many_calls())
        self.assertIs(type(row), list)
        self.assertEqual({type(number) for number in row}, {int})


class NothingKept(unittest.TestCase):
    def test_what_is_handed_in_is_not_changed(self):
        calls = many_calls()
        before = copy.copy(calls)
        answers(calls)
        self.assertEqual(calls, before)

    def test_not_for_a_while_either(self):
        calls = Unchanging(many_calls())
        self.assertEqual(answers(calls), answers(many_calls()))

    def test_twice_the_same(self):
        self.assertEqual(answers(many_calls()), answers(many_calls()))

    def test_no_book_from_the_time_before(self):
        self.assertEqual(answered(open_book(BOOK), new(1), put(ONE), kinds(1, 1))[3], [0, 2, 0, 0])
        self.assertEqual(answered(new(1), put(ONE), kinds(1, 1))[2], [-9])
        other = book_octets([(2, 0, 0)], [[[2]], [[1]]])
        self.assertEqual(answered(open_book(other), new(1), put(ONE), kinds(1, 1))[3], [0, 2, 1, 0])

    def test_no_collection_from_the_time_before(self):
        self.assertEqual(answers(new(1) + put(ONE)), [1, 0, 1, 0])
        self.assertEqual(answers(record(1, 1)), [1, -9])
        self.assertEqual(answers(new(1) + list_of(0, 0)), [1, 0, 2, 0, 0])

    def test_what_is_given_back_is_the_callers_own(self):
        calls = new(1) + put(ONE) + record(1, 1)
        first = answers(calls)
        first[-1] = 77
        self.assertEqual(answers(calls)[-1], ONE[-1])


class RefusalsChangeNothing(unittest.TestCase):
    def test_each(self):
        there = collection_octets(1, [ONE, TWO])
        refused = [open_book([]), new(0), new(257), take([]), take(there + [0]), put([]), put(ONE + [0]),
                   join(there[:-1]), join(collection_octets(2, [])), lacking([]), lacking(collection_octets(3, [])),
                   record(9, 9), list_of(2, 1), list_of(0, 0, (0,))]
        for call in refused:
            row = answered(take(there), call, whole(), list_of(0, 0))
            self.assertLess(row[1][0], 0)
            self.assertEqual(row[2:], [told(there), [0, 4, 1, 1, 1, 2]])


if __name__ == "__main__":
    unittest.main()
