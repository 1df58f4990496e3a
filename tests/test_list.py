"""list: the records that count for days and a place."""

import unittest

from tests.helper import (ALL, answered, collection_octets, list_of, new, put, record_octets, take)

TOP = 2 ** 32 - 1


class ListTest(unittest.TestCase):
    def listed(self, records, *calls):
        """The names told to each list call, or its refusal."""
        return answered(take(collection_octets(1, records)), *calls)[1:]


class Days(ListTest):
    def test_at_the_edges(self):
        records = [record_octets(1, day, day=day) for day in (9, 10, 11, 19, 20, 21)]
        self.assertEqual(self.listed(records, list_of(10, 20)), [[0, 8, 1, 10, 1, 11, 1, 19, 1, 20]])
        self.assertEqual(self.listed(records, list_of(10, 10)), [[0, 2, 1, 10]])
        self.assertEqual(self.listed(records, list_of(12, 18)), [[0, 0]])
        self.assertEqual(self.listed(records, list_of(0, 9)), [[0, 2, 1, 9]])
        self.assertEqual(self.listed(records, list_of(21, ALL)), [[0, 2, 1, 21]])

    def test_first_and_last_day_there_is(self):
        records = [record_octets(0, 0, day=0), record_octets(0, 1, day=TOP)]
        calls = [list_of(0, 0), list_of(TOP, TOP), list_of(TOP, ALL), list_of(TOP + 1, ALL), list_of(0, TOP)]
        self.assertEqual(self.listed(records, *calls), [[0, 2, 0, 0], [0, 2, 0, 1], [0, 2, 0, 1], [0, 0],
                                                        [0, 4, 0, 0, 0, 1]])

    def test_d_above_e(self):
        records = [record_octets(1, 1)]
        calls = [list_of(1, 0), list_of(ALL, ALL - 1), list_of(2 ** 32, 1), list_of(5, 4, (1,)), list_of(0, 0)]
        self.assertEqual(self.listed(records, *calls), [[-1], [-1], [-1], [-1], [0, 2, 1, 1]])


class PlacesListed(ListTest):
    PLACES = [(), (1,), (1, 2), (1, 2, 3), (1, 255), (2,), (2, 1), (12,), (255,) * 8, (255,) * 7]

    def records(self):
        return [record_octets(1, k, place=place) for k, place in enumerate(self.PLACES)]

    def numbers(self, place):
        row = self.listed(self.records(), list_of(0, 0, place))[0]
        self.assertEqual(row[:2], [0, len(row) - 2])
        self.assertEqual(row[2::2], [1] * (len(row) // 2 - 1))
        return row[3::2]

    def test_all_lie_within_the_place_of_no_bytes(self):
        self.assertEqual(self.numbers(()), list(range(10)))

    def test_within(self):
        self.assertEqual(self.numbers((1,)), [1, 2, 3, 4])
        self.assertEqual(self.numbers((1, 2)), [2, 3])
        self.assertEqual(self.numbers((1, 2, 3)), [3])
        self.assertEqual(self.numbers((1, 2, 3, 4)), [])
        self.assertEqual(self.numbers((2,)), [5, 6])
        self.assertEqual(self.numbers((255,) * 7), [8, 9])
        self.assertEqual(self.numbers((255,) * 8), [8])
        self.assertEqual(self.numbers((3,)), [])

    def test_a_place_that_is_none(self):
        none = [(0,), (1, 0), (0, 1), (1, 0, 2), (1,) * 9, (1,) * 20, (0,) * 9, (1,) * 7 + (0,), (0,) * 8]
        calls = [list_of(0, 0, place) for place in none]
        self.assertEqual(self.listed(self.records(), *calls), [[-1]] * len(none))

    def test_places_part(self):
        for place in [()] + self.PLACES[:7]:
            alone = [k for k, other in enumerate(self.PLACES) if other == place]
            rows = self.listed(self.records(), *[list_of(0, 0, place + (k,)) for k in range(1, 256)])
            parts = [number for row in rows for number in row[3::2]]
            self.assertEqual(sorted(alone + parts), self.numbers(place))


class WithdrawnAndOrder(ListTest):
    def test_withdrawn(self):
        records = [record_octets(1, 1), record_octets(1, 2, withdrawn=1), record_octets(1, 3)]
        self.assertEqual(self.listed(records, list_of(0, ALL)), [[0, 4, 1, 1, 1, 3]])

    def test_withdrawn_later_and_back_again(self):
        calls = [new(1), put(record_octets(1, 1, version=1)), list_of(0, 0),
                 put(record_octets(1, 1, version=2, withdrawn=1)), list_of(0, 0),
                 put(record_octets(1, 1, version=3)), list_of(0, 0)]
        self.assertEqual(answered(*calls)[2::2], [[0, 2, 1, 1], [0, 0], [0, 2, 1, 1]])

    def test_by_hand_then_by_number_however_put(self):
        names = [(256, 0), (1, 256), (TOP, 0), (1, 255), (0, TOP), (2, 1), (255, 3)]
        row = answered(new(1), *[put(record_octets(*name)) for name in names], list_of(0, 0))[-1]
        expected = [number for name in sorted(names) for number in name]
        self.assertEqual(row, [0, len(expected)] + expected)

    def test_tells_hands_and_numbers_not_how_many_individuals(self):
        self.assertEqual(self.listed([record_octets(5, 6, individuals=1048576)], list_of(0, 0)), [[0, 2, 5, 6]])

    def test_no_records(self):
        self.assertEqual(answered(new(3), list_of(0, ALL), list_of(0, 0, (1, 2))), [[0], [0, 0], [0, 0]])


class RefusalsInOrder(ListTest):
    def test_no_collection_comes_first(self):
        self.assertEqual(answered(list_of(1, 0)), [[-9]])
        self.assertEqual(answered(list_of(0, 0, (0,))), [[-9]])
        self.assertEqual(answered(new(1), list_of(1, 0, (0,))), [[0], [-1]])


if __name__ == "__main__":
    unittest.main()
