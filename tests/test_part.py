"""part: the bytes of the collection of the records that count."""

import unittest

from tests.helper import (ALL, answered, bytes_of, collection_octets, join, list_of, new, part, record_octets, take,
                          tally, told)

TOP = 2 ** 32 - 1


class PartTest(unittest.TestCase):
    def parted(self, records, *calls):
        """What is answered to each of the calls on the collection of these records."""
        return answered(take(collection_octets(1, records)), *calls)[1:]

    def tells(self, records, call, expected):
        self.assertEqual(self.parted(records, call), [told(collection_octets(1, expected))])


class Days(PartTest):
    def test_at_the_edges(self):
        records = [record_octets(1, day, day=day) for day in (9, 10, 11, 19, 20, 21)]
        self.tells(records, part(10, 20), records[1:5])
        self.tells(records, part(10, 10), records[1:2])
        self.tells(records, part(12, 18), [])
        self.tells(records, part(0, 9), records[:1])
        self.tells(records, part(21, ALL), records[5:])

    def test_first_and_last_day_there_is(self):
        records = [record_octets(0, 0, day=0), record_octets(0, 1, day=TOP)]
        self.tells(records, part(0, 0), records[:1])
        self.tells(records, part(TOP, TOP), records[1:])
        self.tells(records, part(TOP + 1, ALL), [])
        self.tells(records, part(0, TOP), records)

    def test_d_above_e(self):
        calls = [part(1, 0), part(ALL, ALL - 1), part(2 ** 32, 1), part(5, 4, (1,))]
        self.assertEqual(self.parted([record_octets(1, 1)], *calls), [[-1]] * 4)


class PlacesParted(PartTest):
    PLACES = [(), (1,), (1, 2), (1, 2, 3), (1, 255), (2,), (12,), (255,) * 7, (255,) * 8]

    def records(self):
        return [record_octets(1, k, place=place) for k, place in enumerate(self.PLACES)]

    def test_within(self):
        records = self.records()
        for place, numbers in (((), range(9)), ((1,), (1, 2, 3, 4)), ((1, 2), (2, 3)), ((1, 2, 3), (3,)),
                               ((1, 2, 3, 4), ()), ((2,), (5,)), ((255,) * 7, (7, 8)), ((255,) * 8, (8,)), ((3,), ())):
            self.tells(records, part(0, 0, place), [records[k] for k in numbers])

    def test_a_place_that_is_none(self):
        none = [(0,), (1, 0), (0, 1), (1, 0, 2), (1,) * 9, (1,) * 20, (0,) * 9, (0,) * 8]
        calls = [part(0, 0, place) for place in none]
        self.assertEqual(self.parted(self.records(), *calls), [[-1]] * len(none))


class Parts(PartTest):
    def test_withdrawn_are_left_out(self):
        records = [record_octets(1, 1), record_octets(1, 2, withdrawn=1), record_octets(1, 3)]
        self.tells(records, part(0, ALL), [records[0], records[2]])
        self.tells(records[1:2], part(0, ALL), [])

    def test_of_no_records(self):
        for characters in (1, 2, 256):
            empty = collection_octets(characters, [])
            self.assertEqual(answered(new(characters), part(0, ALL)), [[0], told(empty)])

    def test_days_and_place_together(self):
        records = [record_octets(k, 0, day=k, place=(1 + k % 2,)) for k in range(8)]
        self.tells(records, part(2, 5, (1,)), [records[2], records[4]])

    def test_is_taken_again(self):
        records = [record_octets(k, k, day=k % 3, place=(1,) * (k % 4), withdrawn=k % 5 == 4, sets=(k + 1, ALL))
                   for k in range(20)]
        row = answered(take(collection_octets(2, records)), part(1, 2, (1,)), list_of(1, 2, (1,)))
        octets = row[1][2:]
        again = answered(take(octets), bytes_of(), list_of(0, ALL), part(1, 2, (1,)), tally())
        self.assertGreater(len(octets), 100)
        self.assertEqual(again, [[0], told(octets), row[2], told(octets), [0, 2, row[2][1] // 2]])

    def test_changes_nothing(self):
        records = [record_octets(1, 1), record_octets(1, 2, withdrawn=1), record_octets(2, 1, day=5)]
        octets = collection_octets(1, records)
        self.assertEqual(self.parted(records, part(5, 5), bytes_of(), tally())[1:], [told(octets), [0, 1, 3]])

    def test_parts_joined_are_the_whole(self):
        records = [record_octets(k, 1, day=k, place=(k % 3 + 1,)) for k in range(12)]
        octets = collection_octets(1, records)
        by_days = [row[2:] for row in self.parted(records, part(8, ALL), part(0, 4), part(5, 7))]
        by_places = [row[2:] for row in self.parted(records, part(0, 99, (2,)), part(0, 99, (1,)), part(0, 99, (3,)))]
        for parts in (by_days, by_places):
            self.assertEqual(answered(new(1), *[join(one) for one in parts], bytes_of())[-1], told(octets))

    def test_needs_no_book(self):
        self.assertEqual(answered(part(0, 0)), [[-9]])
        self.assertEqual(answered(part(1, 0, (0,))), [[-9]])
        self.assertEqual(answered(new(1), part(0, 0))[1], told(collection_octets(1, [])))


if __name__ == "__main__":
    unittest.main()
