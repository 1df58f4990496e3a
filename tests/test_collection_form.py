"""new and take: a collection's bytes, and the faults that they can have."""

import itertools
import unittest

from tests.helper import (ALL, COLLECTION_HEAD, COLLECTION_MARK, RECORD_HEAD, answered, collection_octets, lacking,
                          list_of, low_first, new, put, record, record_octets, take, told, whole)

FIRST = COLLECTION_HEAD


class New(unittest.TestCase):
    def test_bounds(self):
        for characters, expected in ((0, -1), (1, 0), (256, 0), (257, -1), (18446744073709551615, -1)):
            self.assertEqual(answered(new(characters)), [[expected]])

    def test_has_no_records_and_that_many_characters(self):
        for characters in (1, 2, 255, 256):
            octets = collection_octets(characters, [])
            self.assertEqual(answered(new(characters), lacking(octets)), [[0], told(octets)])
            self.assertEqual(answered(new(characters), list_of(0, ALL)), [[0], [0, 0]])

    def test_stands_in_the_place_of_another(self):
        calls = [new(1), put(record_octets(1, 1)), new(1), record(1, 1), list_of(0, ALL)]
        self.assertEqual(answered(*calls), [[0], [0], [0], [-2], [0, 0]])

    def test_a_refusal_leaves_the_collection(self):
        octets = record_octets(1, 1)
        self.assertEqual(answered(new(1), put(octets), new(0), record(1, 1)), [[0], [0], [-1], told(octets)])
        self.assertEqual(answered(new(257), record(1, 1)), [[-1], [-9]])


class TakeTest(unittest.TestCase):
    def taken(self, octets):
        """Taken, and told again just as it was: one form."""
        n = octets[4] + 256 * octets[5]
        empty = collection_octets(n, [])
        self.assertEqual(answered(take(octets), lacking(empty)), [[0], told(octets)])

    def broken(self, octets, rule, place):
        self.assertEqual(answered(take(octets)), [[-5, rule, place]])


class Taken(TakeTest):
    def test_no_records(self):
        for characters in (1, 2, 255, 256):
            self.taken(collection_octets(characters, []))

    def test_records(self):
        one = record_octets(1, 2, 3, 4, (5, 6), 1, 7, 8, (9, ALL))
        two = record_octets(2, 0, sets=(1, 2 ** 63))
        self.taken(collection_octets(2, [one]))
        self.taken(collection_octets(2, [one, two]))

    def test_edges_of_all_numbers(self):
        top = 2 ** 32 - 1
        least = record_octets(0, 0, 0, 0, (), 0, 1, 0, (1,))
        most = record_octets(top, top, top, top, (255,) * 8, 1, 1048576, 256, (ALL,))
        self.taken(collection_octets(1, [least, most]))

    def test_256_characters(self):
        self.taken(collection_octets(256, [record_octets(1, 1, sets=range(1, 257))]))

    def test_60_records(self):
        self.taken(collection_octets(1, [record_octets(k // 7, k, sets=(k + 1,)) for k in range(60)]))

    def test_order_is_by_hand_then_by_number(self):
        names = [(0, 0), (0, 255), (0, 256), (0, 2 ** 31), (1, 0), (255, 9), (256, 0), (65536, 2)]
        self.taken(collection_octets(1, [record_octets(*name) for name in names]))

    def test_stands_in_the_place_of_another(self):
        calls = [take(collection_octets(1, [record_octets(1, 1)])), take(collection_octets(1, [record_octets(2, 2)])),
                 list_of(0, 0)]
        self.assertEqual(answered(*calls), [[0], [0], [0, 2, 2, 2]])


class Mark(TakeTest):
    def test_each_byte(self):
        good = collection_octets(1, [])
        for at in range(4):
            for wrong in (good[at] - 1, good[at] + 1, 0, 255):
                self.broken(good[:at] + [wrong] + good[at + 1:], 1, at)
                self.broken(good[:at] + [wrong], 1, at)
                self.broken(good[:at] + [wrong] + [0] * 3, 1, at)

    def test_a_books_mark(self):
        self.broken([70, 76, 66, 49] + [0] * 20, 1, 2)


class OutOfBounds(TakeTest):
    def test_characters(self):
        for characters in (0, 257, 65535):
            self.broken(COLLECTION_MARK + low_first(characters, 2) + [0] * 4, 2, 4)
            self.broken(COLLECTION_MARK + low_first(characters, 2), 2, 4)

    def test_records(self):
        for records in (1048577, 2 ** 32 - 1):
            self.broken(COLLECTION_MARK + [1, 0] + low_first(records, 4), 2, 6)
        self.broken(COLLECTION_MARK + [1, 0] + low_first(1048576, 4), 5, 10)

    def test_withdrawn(self):
        for withdrawn in (2, 3, 255):
            self.broken(collection_octets(1, [record_octets(1, 1, withdrawn=withdrawn)]), 2, FIRST + 24)

    def test_individuals(self):
        for individuals in (0, 1048577, 2 ** 32 - 1):
            self.broken(collection_octets(1, [record_octets(1, 1, individuals=individuals)]), 2, FIRST + 25)

    def test_errors(self):
        for errors in (257, 65535):
            self.broken(collection_octets(1, [record_octets(1, 1, errors=errors)]), 2, FIRST + 29)

    def test_empty_sets(self):
        self.broken(collection_octets(1, [record_octets(1, 1, sets=(0,))]), 2, FIRST + 31)
        self.broken(collection_octets(3, [record_octets(1, 1, sets=(1, 1, 0))]), 2, FIRST + 31 + 16)

    def test_of_a_later_record(self):
        octets = collection_octets(1, [record_octets(1, 1), record_octets(1, 2, errors=300)])
        self.broken(octets, 2, FIRST + RECORD_HEAD + 8 + 29)


class Places(TakeTest):
    def test_behind_a_zero(self):
        for place, at in (((0, 1), 1), ((1, 0, 2), 2), ((0, 0, 0, 0, 0, 0, 0, 9), 7), ((1, 2, 0, 0, 3, 4), 4),
                          ((1, 2, 3, 4, 5, 6, 0, 1), 7)):
            self.broken(collection_octets(1, [record_octets(1, 1, place=place)]), 3, FIRST + 16 + at)

    def test_all_lengths_are_taken(self):
        for size in range(9):
            self.taken(collection_octets(1, [record_octets(1, 1, place=range(1, size + 1))]))

    def test_end_within_a_place_is_told_first(self):
        octets = collection_octets(1, [record_octets(1, 1, place=(0, 1))])
        for size in range(FIRST + 16, FIRST + 24):
            self.broken(octets[:size], 5, size)
        self.broken(octets[:FIRST + 24], 3, FIRST + 17)


class Order(TakeTest):
    def test_twice_or_not_behind(self):
        for before, behind in (((1, 1), (1, 1)), ((1, 2), (1, 1)), ((2, 1), (1, 2)), ((256, 0), (1, 0)),
                               ((0, 256), (0, 255)), ((0, 0), (0, 0))):
            records = [record_octets(*before), record_octets(*behind, version=9)]
            self.broken(collection_octets(1, records), 4, FIRST + 39)

    def test_of_the_third(self):
        records = [record_octets(1, 1), record_octets(3, 1), record_octets(2, 1)]
        self.broken(collection_octets(1, records), 4, FIRST + 78)

    def test_told_behind_all_of_the_record(self):
        good = record_octets(5, 5)
        for wrong, rule, at in ((record_octets(1, 1, place=(0, 1)), 3, 17), (record_octets(1, 1, withdrawn=2), 2, 24),
                                (record_octets(1, 1, individuals=0), 2, 25), (record_octets(1, 1, errors=257), 2, 29),
                                (record_octets(1, 1, sets=(0,)), 2, 31)):
            self.broken(collection_octets(1, [good, wrong]), rule, FIRST + 39 + at)

    def test_an_end_within_the_record_is_told_ahead_of_it(self):
        octets = collection_octets(1, [record_octets(5, 5), record_octets(1, 1)])
        for size in range(FIRST + 39, len(octets)):
            self.broken(octets[:size], 5, size)

    def test_told_ahead_of_what_is_behind_the_record(self):
        records = [record_octets(5, 5), record_octets(1, 1), record_octets(6, 6, withdrawn=2)]
        self.broken(collection_octets(1, records), 4, FIRST + 39)
        self.broken(collection_octets(1, records[:2]) + [0], 4, FIRST + 39)


class Ends(TakeTest):
    def test_at_every_byte(self):
        octets = collection_octets(2, [record_octets(1, 1, place=(1, 2, 3), sets=(1, 2)), record_octets(1, 2, sets=(1, 2))])
        for size in range(len(octets)):
            self.broken(octets[:size], 5, size)

    def test_fewer_records_than_told(self):
        octets = COLLECTION_MARK + [1, 0] + low_first(2, 4) + record_octets(1, 1)
        self.broken(octets, 5, FIRST + 39)

    def test_an_earlier_fault_is_told_first(self):
        octets = collection_octets(1, [record_octets(1, 1, errors=257)])
        self.broken(octets[:-3], 2, FIRST + 29)
        self.broken(octets[:FIRST + 30], 5, FIRST + 30)

    def test_left_over(self):
        octets = collection_octets(1, [record_octets(1, 1)])
        for left in ([0], [1, 2], record_octets(1, 2)):
            self.broken(octets + left, 7, len(octets))
            self.broken(collection_octets(1, []) + left, 7, FIRST)


class FirstOfTwoFaults(TakeTest):
    def test_pairs(self):
        good = collection_octets(2, [record_octets(1, 1, sets=(1, 1)), record_octets(1, 2, sets=(1, 1))])
        second = FIRST + 47
        faults = [(0, 1, 1, 0), (2, 0, 1, 2), (4, 0, 2, 4), (9, 1, 2, 6)]
        for start in (FIRST, second):
            faults += [(start + 17, 1, 3, start + 17), (start + 24, 2, 2, start + 24), (start + 25, 0, 2, start + 25),
                       (start + 30, 2, 2, start + 29), (start + 31, 0, 2, start + 31), (start + 39, 0, 2, start + 39)]
        for (at, wrong, rule, place), later in itertools.combinations(faults, 2):
            octets = list(good)
            octets[at] = wrong
            octets[later[0]] = later[1]
            self.broken(octets, rule, place)


class Refused(unittest.TestCase):
    def test_leaves_the_collection(self):
        good = collection_octets(1, [record_octets(1, 1)])
        bad = (good[:-1], good + [0], [], [1], collection_octets(1, [record_octets(2, 2), record_octets(1, 1)]))
        for octets in bad:
            answer = answered(take(good), take(octets), whole(), list_of(0, 0))
            self.assertEqual([answer[0], answer[1][0], answer[2], answer[3]], [[0], -5, told(good), [0, 2, 1, 1]])

    def test_leaves_none_if_there_was_none(self):
        self.assertEqual(answered(take([]), list_of(0, 0)), [[-5, 5, 0], [-9]])


if __name__ == "__main__":
    unittest.main()
