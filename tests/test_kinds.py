"""kinds: which kinds a record may be of, each with its least errors."""

import itertools
import random
import unittest

from manyhandsdesk.agreement import least_errors
from manyhandsdesk.books import read_book
from tests.helper import (ALL, answered, book_octets, collection_octets, kinds, new, open_book, put, record_octets,
                          slow_kinds, some_book, some_set, take)

FREE = (2, 0, 0)


class KindsTest(unittest.TestCase):
    def found(self, characters, of_book, specimens):
        """The kinds and least errors told of each specimen, which is its sets and errors; 60 records at a time."""
        if len(specimens) > 60:
            return self.found(characters, of_book, specimens[:60]) + self.found(characters, of_book, specimens[60:])
        records = [record_octets(1, k, sets=sets, errors=errors) for k, (sets, errors) in enumerate(specimens)]
        row = answered(open_book(book_octets(characters, of_book)), take(collection_octets(len(characters), records)),
                       *[kinds(1, k) for k in range(len(records))])
        self.assertEqual(row[:2], [[0], [0]])
        return [self.pairs(answer) for answer in row[2:]]

    def pairs(self, answer):
        self.assertEqual(answer[:2], [0, len(answer) - 2])
        return list(zip(answer[2::2], answer[3::2], strict=True))

    def as_counted_slowly(self, characters, of_book, specimens):
        expected = [slow_kinds(characters, of_book, *specimen) for specimen in specimens]
        self.assertEqual(self.found(characters, of_book, specimens), expected)
        return expected


class NoneOneSeveral(KindsTest):
    CHARACTERS = [(4, 0, 0), (3, 0, 0)]
    BOOK = [[[1, 1]], [[2, 1]], [[2, 3]], [[4, 4]]]

    def test_sets_leave_none_one_several(self):
        specimens = [((8, 7), 0), ((1, 7), 0), ((2, 7), 0), ((2, 2), 0), ((15, 7), 0), ((3, 4), 0)]
        self.assertEqual(self.found(self.CHARACTERS, self.BOOK, specimens),
                         [[], [(0, 0)], [(1, 0), (2, 0)], [(2, 0)], [(0, 0), (1, 0), (2, 0), (3, 0)], []])

    def test_how_many_numbers_stand_ahead(self):
        row = answered(open_book(book_octets(self.CHARACTERS, self.BOOK)), new(2),
                       put(record_octets(7, 9, sets=(2, 7))), kinds(7, 9))
        self.assertEqual(row[3], [0, 4, 1, 0, 2, 0])

    def test_errors_none_just_enough_one_too_few(self):
        characters = [FREE] * 4
        of_book = [[[1, 1, 1, 1]]]
        for wrong in range(5):
            sets = (2,) * wrong + (1,) * (4 - wrong)
            specimens = [(sets, errors) for errors in range(6)] + [(sets, 256)]
            expected = [[(0, wrong)] if errors >= wrong else [] for ignored, errors in specimens]
            self.assertEqual(self.found(characters, of_book, specimens), expected)

    def test_by_errors_then_by_number(self):
        characters = [FREE] * 3
        of_book = [[[2, 2, 2]], [[1, 1, 2]], [[1, 2, 1]], [[1, 1, 1]], [[1, 2, 2]], [[1, 1, 1]]]
        self.assertEqual(self.found(characters, of_book, [((1, 1, 1), 3), ((1, 1, 1), 1)]),
                         [[(3, 0), (5, 0), (1, 1), (2, 1), (4, 2), (0, 3)], [(3, 0), (5, 0), (1, 1), (2, 1)]])

    def test_state_63(self):
        self.assertEqual(self.found([(64, 0, 0)], [[[2 ** 63]], [[1]]], [((2 ** 63,), 0), ((2 ** 63 + 1,), 0),
                                                                         ((2 ** 62,), 1)]),
                         [[(0, 0)], [(0, 0), (1, 0)], [(0, 1), (1, 1)]])


class SeveralForms(KindsTest):
    def test_the_least_of_all_forms(self):
        characters = [FREE] * 3
        of_book = [[[2, 2, 2], [2, 2, 1], [2, 1, 1]], [[2, 1, 1], [2, 2, 2]], [[2, 2, 2]]]
        self.assertEqual(self.found(characters, of_book, [((1, 1, 1), 2), ((2, 2, 2), 0), ((2, 2, 1), 1)]),
                         [[(0, 1), (1, 1)], [(0, 0), (1, 0), (2, 0)], [(0, 0), (1, 1), (2, 1)]])

    def test_states_of_two_forms_are_not_mixed(self):
        of_book = [[[1, 2], [2, 1]]]
        self.assertEqual(self.found([FREE] * 2, of_book, [((1, 1), 0), ((1, 1), 1), ((1, 2), 0)]),
                         [[], [(0, 1)], [(0, 0)]])

    def test_16_forms(self):
        forms = [[1 << k, 2 if k < 15 else 1] for k in range(16)]
        self.assertEqual(self.found([(16, 0, 0), FREE], [forms], [((2 ** 15, 1), 0), ((1, 1), 1), ((1, 1), 0)]),
                         [[(0, 0)], [(0, 1)], []])


class Hanging(KindsTest):
    def test_one_step(self):
        characters = [FREE, (3, 1, 2)]
        of_book = [[[3, 7]], [[1, 1]], [[2, 6]]]
        specimens = [(sets, errors) for sets in itertools.product((1, 2, 3), range(1, 8)) for errors in range(3)]
        self.as_counted_slowly(characters, of_book, specimens)
        self.assertEqual(self.found(characters, of_book, [((1, 2), 0), ((1, 2), 1), ((2, 1), 1)]),
                         [[], [(0, 1), (1, 1), (2, 1)], [(0, 1), (1, 1), (2, 1)]])

    def test_chains_of_three_and_more(self):
        for length in (3, 4, 5):
            characters = [FREE] + [(2, k, 2) for k in range(1, length)]
            of_book = [[[3] * length], [[2] * length], [[1] * length], [[3] * (length - 1) + [1]]]
            specimens = [(sets, errors) for sets in itertools.product((1, 2, 3), repeat=length)
                         for errors in (0, 1, length)]
            self.as_counted_slowly(characters, of_book, specimens)

    def test_a_chain_is_gone_down_where_that_is_the_least(self):
        # Four states seen that only a long chain has: the first one seen wrongly is one error, a short chain four.
        characters = [FREE] + [(2, k, 2) for k in range(1, 5)]
        self.assertEqual(self.found(characters, [[[3] * 5]], [((1, 2, 2, 2, 2), 1), ((1, 2, 2, 2, 2), 0)]),
                         [[(0, 1)], []])
        self.assertEqual(self.found(characters, [[[1] * 5]], [((1, 2, 2, 2, 2), 4), ((1, 2, 2, 2, 2), 3)]),
                         [[(0, 4)], []])

    def test_several_that_hang_on_one(self):
        characters = [(3, 0, 0), (2, 1, 2), (3, 1, 6), (2, 1, 5)]
        of_book = [[[7, 3, 7, 3]], [[2, 2, 2, 1], [4, 1, 4, 2]], [[1, 1, 1, 2]]]
        specimens = [(sets, errors) for sets in itertools.product((1, 2, 4, 5), (1, 2, 3), (1, 2, 6), (1, 2))
                     for errors in (0, 2)]
        self.as_counted_slowly(characters, of_book, specimens)

    def test_branches_within_branches(self):
        characters = [FREE, (3, 1, 2), (2, 2, 2), (2, 2, 6), (2, 3, 2), (2, 1, 1)]
        of_book = [[[3, 7, 3, 3, 3, 3]], [[2, 2, 2, 2, 2, 1], [1, 1, 1, 1, 1, 2]], [[3, 5, 1, 3, 1, 3]]]
        chance = random.Random(5)
        specimens = [([some_set(chance, c[0]) for c in characters], chance.randint(0, 4)) for k in range(150)]
        self.as_counted_slowly(characters, of_book, specimens)

    def test_the_longest_chain_of_a_list(self):
        characters = [(64, 0, 0)] + [(64, k, ALL - 1) for k in range(1, 16)]
        of_book = [[[ALL] * 16], [[1] * 16], [[2] * 16]]
        sets = [1] * 8 + [2] * 8
        self.assertEqual(self.found(characters, of_book, [(sets, 16), (sets, 7)]), [[(0, 8), (1, 8), (2, 8)], []])


class AgainstAllIndividuals(KindsTest):
    def test_small_books(self):
        chance = random.Random(11)
        lengths = {}
        for k in range(250):
            characters, of_book = some_book(chance)
            specimens = [([some_set(chance, c[0]) for c in characters], chance.randint(0, len(characters)))
                         for j in range(12)]
            for found in self.as_counted_slowly(characters, of_book, specimens):
                lengths[len(found)] = True
        self.assertEqual(sorted(lengths), [0, 1, 2, 3, 4])

    def test_bits_of_states_that_there_are_not(self):
        chance = random.Random(12)
        for k in range(100):
            characters, of_book = some_book(chance)
            book = read_book(book_octets(characters, of_book))
            sets = [some_set(chance, c[0]) for c in characters]
            more = [states | chance.getrandbits(64 - c[0]) << c[0] for states, c in zip(sets, characters)]
            self.assertEqual(least_errors(book, more), least_errors(book, sets))

    def test_empty_sets_are_errors(self):
        book = read_book(book_octets([FREE, (2, 1, 2)], [[[3, 3]]]))
        self.assertEqual([least_errors(book, sets) for sets in ([0, 0], [0, 1], [3, 0], [2, 1])], [[2], [1], [1], [1]])


class WhichRecord(KindsTest):
    BOOK = book_octets([FREE], [[[1]], [[2]]])

    def test_withdrawn_or_not(self):
        for withdrawn in (0, 1):
            octets = record_octets(3, 4, withdrawn=withdrawn, sets=(2,), errors=1)
            self.assertEqual(answered(open_book(self.BOOK), new(1), put(octets), kinds(3, 4))[3], [0, 4, 1, 0, 0, 1])

    def test_no_such_record(self):
        calls = [open_book(self.BOOK), new(1), kinds(0, 0), put(record_octets(3, 4)), kinds(4, 3), kinds(3, 5),
                 kinds(2, 4), kinds(2 ** 32 + 3, 4), kinds(ALL, ALL), kinds(3, 4)]
        self.assertEqual(answered(*calls)[2:], [[-2], [0], [-2], [-2], [-2], [-2], [-2], [0, 2, 0, 0]])

    def test_the_record_that_is_there_now(self):
        calls = [open_book(self.BOOK), new(1), put(record_octets(1, 1, version=1, sets=(1,))), kinds(1, 1),
                 put(record_octets(1, 1, version=2, sets=(2,))), kinds(1, 1),
                 put(record_octets(1, 1, version=3, sets=(2,), errors=1)), kinds(1, 1)]
        self.assertEqual(answered(*calls)[3::2], [[0, 2, 0, 0], [0, 2, 1, 0], [0, 4, 1, 0, 0, 1]])

    def test_the_book_that_is_open_now(self):
        other = book_octets([(3, 0, 0)], [[[4]], [[2]], [[3]]])
        calls = [open_book(self.BOOK), new(1), put(record_octets(1, 1, sets=(1,))), kinds(1, 1), open_book(other),
                 kinds(1, 1), open_book(other[:-1]), kinds(1, 1), open_book(self.BOOK), kinds(1, 1)]
        self.assertEqual(answered(*calls)[3::2], [[0, 2, 0, 0], [0, 2, 2, 0], [0, 2, 2, 0], [0, 2, 0, 0]])

    def test_records_of_the_same_sets_and_other_errors(self):
        records = [record_octets(1, k, sets=(1,), errors=k) for k in (0, 1, 256)]
        row = answered(open_book(self.BOOK), take(collection_octets(1, records)), *[kinds(1, k) for k in (1, 0, 256)])
        self.assertEqual(row[2:], [[0, 4, 0, 0, 1, 1], [0, 2, 0, 0], [0, 4, 0, 0, 1, 1]])


if __name__ == "__main__":
    unittest.main()
