"""bytes and tally: the whole collection, and how large it is."""

import itertools
import unittest

from tests.helper import (ALL, answered, book_octets, bytes_of, collection_octets, join, new, open_book, put,
                          record_octets, take, tally, told)


def some_records():
    return [record_octets(0, 9, 1, 2, (3, 4), 1, 5, 6, (7, ALL)), record_octets(1, 0, sets=(1, 2)),
            record_octets(1, 256, individuals=1048576, sets=(2 ** 63, 1)), record_octets(2 ** 32 - 1, 0, sets=(4, 4))]


class Bytes(unittest.TestCase):
    def test_of_an_empty_one(self):
        for characters in (1, 2, 255, 256):
            octets = collection_octets(characters, [])
            self.assertEqual(answered(new(characters), bytes_of(), take(octets), bytes_of())[1::2], [told(octets)] * 2)

    def test_of_what_was_taken(self):
        for size in range(5):
            octets = collection_octets(2, some_records()[:size])
            self.assertEqual(answered(take(octets), bytes_of()), [[0], told(octets)])

    def test_of_what_was_put_in_any_order(self):
        octets = collection_octets(2, some_records())
        for order in itertools.permutations(some_records()):
            self.assertEqual(answered(new(2), *[put(one) for one in order], bytes_of())[-1], told(octets))

    def test_withdrawn_records_are_there(self):
        octets = collection_octets(1, [record_octets(1, 1, withdrawn=1)])
        self.assertEqual(answered(take(octets), bytes_of(), tally()), [[0], told(octets), [0, 1, 1]])

    def test_joined_in_every_order(self):
        rows = [[record_octets(1, 1, version=2), record_octets(3, 1)], [record_octets(1, 1, version=1, day=9)],
                [record_octets(1, 1, version=2, withdrawn=1), record_octets(2, 256)], [record_octets(2, 255)]]
        expected = collection_octets(1, [rows[2][0], rows[3][0], rows[2][1], rows[0][1]])
        for order in itertools.permutations(rows):
            calls = [join(collection_octets(1, row)) for row in order + order[:2]]
            row = answered(new(1), *calls, bytes_of(), tally())
            self.assertEqual(row[-2:], [told(expected), [0, 1, 4]])
            row = answered(take(collection_octets(1, order[0])), *calls, bytes_of())
            self.assertEqual(row[-1], told(expected))

    def test_of_pairs_joined_to_pairs(self):
        rows = [[record_octets(1, k % 2, version=k % 3, day=k)] for k in range(4)]
        expected = told(collection_octets(1, [rows[2][0], rows[1][0]]))
        for order in itertools.permutations(rows):
            pairs = [answered(take(collection_octets(1, one)), join(collection_octets(1, other)), bytes_of())[2][2:]
                     for one, other in (order[:2], order[2:])]
            self.assertEqual(answered(take(pairs[0]), join(pairs[1]), bytes_of())[2], expected)


class Tally(unittest.TestCase):
    def test_of_an_empty_one(self):
        for characters in (1, 2, 255, 256):
            self.assertEqual(answered(new(characters), tally()), [[0], [0, characters, 0]])

    def test_of_records(self):
        for size in range(5):
            octets = collection_octets(2, some_records()[:size])
            self.assertEqual(answered(take(octets), tally()), [[0], [0, 2, size]])

    def test_records_not_individuals(self):
        octets = collection_octets(1, [record_octets(1, 1, individuals=1000)])
        self.assertEqual(answered(take(octets), tally())[1], [0, 1, 1])

    def test_a_greater_one_in_the_place_of_another(self):
        calls = [new(1), put(record_octets(1, 1)), tally(), put(record_octets(1, 1, version=2)), tally(),
                 put(record_octets(1, 1)), tally(), put(record_octets(1, 2)), tally()]
        self.assertEqual(answered(*calls)[2::2], [[0, 1, 1], [0, 1, 1], [0, 1, 1], [0, 1, 2]])

    def test_of_another_collection(self):
        octets = collection_octets(2, some_records())
        self.assertEqual(answered(take(octets), tally(), new(3), tally(), take(octets[:-1]), tally())[1::2],
                         [[0, 2, 4], [0, 3, 0], [0, 3, 0]])


class NoCollectionAndNoBook(unittest.TestCase):
    def test_a_collection_is_needed_and_no_book(self):
        self.assertEqual(answered(bytes_of(), tally()), [[-9], [-9]])
        book = book_octets([(2, 0, 0)], [[[1]]])
        self.assertEqual(answered(open_book(book), bytes_of(), tally())[1:], [[-9], [-9]])

    def test_a_collection_that_does_not_go_with_the_book(self):
        book = book_octets([(2, 0, 0)], [[[1]]])
        octets = collection_octets(2, some_records())
        self.assertEqual(answered(open_book(book), take(octets), bytes_of(), tally())[2:], [told(octets), [0, 2, 4]])


if __name__ == "__main__":
    unittest.main()
