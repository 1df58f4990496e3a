"""put, join, lacking, record: the greatest that anybody has, in whatever order it comes."""

import itertools
import unittest

from manyhandsdesk.collected import Collection
from manyhandsdesk.gathering import Desk, answer
from manyhandsdesk.records import read_record_alone
from tests.helper import (ALL, RECORD_HEAD, answered, collection_octets, join, lacking, list_of, low_first, new, put,
                          record, record_octets, take, told, whole)

NAMES = [(1, 1), (1, 2), (2, 1)]


def name_of(octets):
    return (int.from_bytes(octets[:4], "little"), int.from_bytes(octets[4:8], "little"))


def rank(octets):
    return (int.from_bytes(octets[8:12], "little"), octets)


def greatest(*rows):
    """The records that all the rows come to, found by sorting."""
    best = {}
    for octets in sorted([octets for row in rows for octets in row], key=rank):
        best[name_of(octets)] = octets
    return [best[name] for name in sorted(best)]


def some_collections():
    """Collections whose records are missing, lesser, greater and the same as each other's."""
    low = record_octets(1, 1, version=1, day=9)
    high = record_octets(1, 1, version=2)
    higher = record_octets(1, 1, version=2, withdrawn=1)
    return [[], [low], [high], [higher], [record_octets(0, 7), high, record_octets(1, 2)],
            [higher, record_octets(1, 2, individuals=5), record_octets(3, 0, version=256)],
            [low, record_octets(1, 2, individuals=256), record_octets(3, 0, version=255)]]


class Put(unittest.TestCase):
    def after(self, there, octets, expected):
        calls = [take(collection_octets(1, there)), put(octets), whole()]
        self.assertEqual(answered(*calls), [[0], [0], told(collection_octets(1, expected))])

    def test_into_an_empty_one(self):
        self.after([], record_octets(4, 4), [record_octets(4, 4)])

    def test_ahead_between_behind(self):
        there = [record_octets(2, 2), record_octets(2, 300), record_octets(256, 1)]
        for name, at in (((0, 9), 0), ((2, 1), 0), ((2, 299), 1), ((3, 0), 2), ((255, 9), 2), ((256, 2), 3)):
            octets = record_octets(*name)
            self.after(there, octets, there[:at] + [octets] + there[at:])

    def test_versions(self):
        lesser = record_octets(1, 1, version=255, day=9, individuals=9)
        greater = record_octets(1, 1, version=256, day=1)
        around = [record_octets(1, 0), record_octets(1, 2)]
        self.after([around[0], lesser, around[1]], greater, [around[0], greater, around[1]])
        self.after([around[0], greater, around[1]], lesser, [around[0], greater, around[1]])

    def test_versions_at_their_edges(self):
        least = record_octets(1, 1, version=0, day=1)
        most = record_octets(1, 1, version=2 ** 32 - 1)
        self.after([least], most, [most])
        self.after([most], least, [most])

    def test_bytes_of_one_version(self):
        pairs = [({"day": 256}, {"day": 1}), ({"day": 255}, {"day": 256 + 255}), ({"place": (1,)}, {"place": (2,)}),
                 ({"place": (2,)}, {"place": (2, 1)}), ({"withdrawn": 0}, {"withdrawn": 1}),
                 ({"individuals": 256}, {"individuals": 1}), ({"errors": 256}, {"errors": 1}),
                 ({"sets": (256,)}, {"sets": (1,)}), ({"day": 1, "withdrawn": 1}, {"day": 2})]
        for less, more in pairs:
            lesser = record_octets(1, 1, version=7, **less)
            greater = record_octets(1, 1, version=7, **more)
            self.after([lesser], greater, [greater])
            self.after([greater], lesser, [greater])

    def test_the_very_same(self):
        self.after([record_octets(1, 1)], record_octets(1, 1), [record_octets(1, 1)])

    def test_bytes_are_told_as_they_were_put(self):
        octets = record_octets(2 ** 32 - 1, 0, 3, 2 ** 32 - 1, (255, 1), 1, 1048576, 256, (1, ALL))
        self.assertEqual(answered(new(2), put(octets), record(2 ** 32 - 1, 0)), [[0], [0], told(octets)])


class PutRefused(unittest.TestCase):
    def broken(self, octets, rule, place, characters=1):
        there = collection_octets(characters, [record_octets(1, 1, sets=(1,) * characters)])
        calls = [take(there), put(octets), lacking(collection_octets(characters, []))]
        self.assertEqual(answered(*calls), [[0], [-5, rule, place], told(there)])

    def test_faults(self):
        self.broken(record_octets(1, 1, 5, withdrawn=2), 2, 24)
        self.broken(record_octets(1, 1, 5, individuals=0), 2, 25)
        self.broken(record_octets(1, 1, 5, individuals=1048577), 2, 25)
        self.broken(record_octets(1, 1, 5, errors=257), 2, 29)
        self.broken(record_octets(1, 1, 5, sets=(0,)), 2, 31)
        self.broken(record_octets(1, 1, 5, sets=(1, 0)), 2, 39, 2)
        self.broken(record_octets(1, 1, 5, place=(1, 0, 1)), 3, 18)
        self.broken(record_octets(1, 1, 5, place=(1, 0, 1), errors=257, sets=()), 3, 18)

    def test_too_short(self):
        octets = record_octets(1, 1, 5, place=(0, 1))
        for size in range(24):
            self.broken(octets[:size], 5, size)
        octets = record_octets(1, 1, 5, sets=(1, 2))
        for size in range(len(octets)):
            self.broken(octets[:size], 5, size, 2)

    def test_too_long(self):
        self.broken(record_octets(1, 1, 5) + [0], 7, RECORD_HEAD + 8)

    def test_for_another_number_of_characters(self):
        self.broken(record_octets(1, 1, 5, sets=(1, 1)), 7, RECORD_HEAD + 8)
        self.broken(record_octets(1, 1, 5, sets=(1, 1)), 5, RECORD_HEAD + 16, 3)

    def test_256_characters(self):
        octets = record_octets(1, 1, sets=(ALL,) * 256)
        self.assertEqual(answered(new(256), put(octets), record(1, 1)), [[0], [0], told(octets)])


class Join(unittest.TestCase):
    def joined(self, first, others):
        calls = [take(collection_octets(1, first))] + [join(collection_octets(1, other)) for other in others]
        row = answered(*calls, whole())
        self.assertEqual(row[:-1], [[0]] * len(calls))
        return row[-1]

    def test_two(self):
        for one, other in itertools.product(some_collections(), repeat=2):
            expected = told(collection_octets(1, greatest(one, other)))
            self.assertEqual(self.joined(one, [other]), expected)
            self.assertEqual(self.joined(other, [one]), expected)
            self.assertEqual(self.joined(one, [other, other, one, other]), expected)

    def test_three_in_every_order(self):
        for rows in itertools.combinations(some_collections(), 3):
            expected = told(collection_octets(1, greatest(*rows)))
            for order in itertools.permutations(rows):
                self.assertEqual(self.joined(order[0], order[1:]), expected)
                self.assertEqual(self.joined([], order + order[:2]), expected)

    def test_two_joined_then_joined_to_a_third(self):
        for one, two, three in itertools.permutations(some_collections(), 3):
            pair = self.joined(two, [three])[2:]
            row = answered(take(collection_octets(1, one)), join(pair), whole())
            self.assertEqual(row[2], self.joined(one, [two, three]))

    def test_with_itself(self):
        for row in some_collections():
            self.assertEqual(self.joined(row, [row, row]), told(collection_octets(1, row)))

    def test_as_if_put_in_one_by_one(self):
        for one, other in itertools.product(some_collections(), repeat=2):
            for order in (other, other[::-1]):
                calls = [take(collection_octets(1, one))] + [put(octets) for octets in order] + [whole()]
                self.assertEqual(answered(*calls)[-1], self.joined(one, [other]))

    def test_the_greatest_that_anybody_has(self):
        copies = [[record_octets(*name, version=(k * 7 + name[1]) % 5, day=k) for name in NAMES] for k in range(6)]
        expected = told(collection_octets(1, greatest(*copies)))
        for turn in range(6):
            self.assertEqual(self.joined([], copies[turn:] + copies[:turn]), expected)

    def test_several_characters(self):
        one = collection_octets(3, [record_octets(1, 1, sets=(1, 2, 3))])
        two = collection_octets(3, [record_octets(1, 1, sets=(1, 2, 4))])
        self.assertEqual(answered(take(one), join(two), record(1, 1))[2], told(two[10:]))


class JoinRefused(unittest.TestCase):
    def test_different_numbers_of_characters(self):
        for mine, other in ((1, 2), (2, 1), (1, 256), (256, 1), (255, 256)):
            there = collection_octets(mine, [record_octets(1, 1, sets=(1,) * mine)])
            octets = collection_octets(other, [record_octets(2, 2, sets=(1,) * other)])
            for call in (join, lacking):
                row = answered(take(there), call(octets), lacking(collection_octets(mine, [])))
                self.assertEqual(row, [[0], [-2], told(there)])
                self.assertEqual(answered(new(mine), call(collection_octets(other, []))), [[0], [-2]])

    def test_order_of_the_refusals(self):
        of_two = collection_octets(2, [])
        for call in (join, lacking):
            self.assertEqual(answered(call(of_two)), [[-9]])
            self.assertEqual(answered(call(of_two[:-1])), [[-9]])
            self.assertEqual(answered(new(1), call(of_two + [0])), [[0], [-5, 7, 10]])
            self.assertEqual(answered(new(1), call(of_two[:-1])), [[0], [-5, 5, 9]])
            self.assertEqual(answered(new(1), call(of_two)), [[0], [-2]])

    def test_faults_change_nothing(self):
        there = collection_octets(1, [record_octets(1, 1)])
        good = record_octets(0, 5)
        bad = [(collection_octets(1, [good, record_octets(1, 1, 9, errors=257)]), [-5, 2, 10 + 39 + 29]),
               (collection_octets(1, [good, good]), [-5, 4, 49]), (collection_octets(1, [good]) + [1], [-5, 7, 49]),
               (collection_octets(1, [good])[:-1], [-5, 5, 48]), ([70, 76, 67, 50], [-5, 1, 3])]
        for octets, expected in bad:
            for call in (join, lacking):
                self.assertEqual(answered(take(there), call(octets), whole()), [[0], expected, told(there)])


class TooManyRecords(unittest.TestCase):
    def desk_with(self, how_many):
        """A desk whose records are as many as that; all but the last two are one record under many names."""
        one = read_record_alone(record_octets(9, 9), 1)
        desk = Desk()
        desk.collection = Collection(1)
        desk.collection.records = {(0, k): one for k in range(how_many - 2)}
        for octets in (record_octets(1, 1, version=5), record_octets(1, 2, version=5)):
            desk.collection.records[name_of(octets)] = read_record_alone(octets, 1)
        return desk

    def test_put(self):
        desk = self.desk_with(1048575)
        self.assertEqual(answer(desk, put(record_octets(2, 2))), [0])
        self.assertEqual(answer(desk, put(record_octets(2, 3))), [-6])
        self.assertEqual(len(desk.collection.records), 1048576)
        self.assertEqual(answer(desk, record(2, 3)), [-2])
        for version in (4, 6):
            self.assertEqual(answer(desk, put(record_octets(1, 1, version=version))), [0])
        self.assertEqual(answer(desk, record(1, 1)), told(record_octets(1, 1, version=6)))
        self.assertEqual(answer(desk, put([])), [-5, 5, 0])

    def test_join(self):
        desk = self.desk_with(1048575)
        greater = record_octets(1, 1, version=6)
        too_many = collection_octets(1, [greater, record_octets(1, 3), record_octets(1, 4)])
        self.assertEqual(answer(desk, join(too_many)), [-6])
        self.assertEqual(answer(desk, record(1, 1)), told(record_octets(1, 1, version=5)))
        self.assertEqual(len(desk.collection.records), 1048575)
        self.assertEqual(answer(desk, join(collection_octets(1, [greater, record_octets(1, 3)]))), [0])
        self.assertEqual(answer(desk, record(1, 1)), told(greater))
        self.assertEqual(len(desk.collection.records), 1048576)
        self.assertEqual(answer(desk, join(collection_octets(2, []))), [-2])


class Lacking(unittest.TestCase):
    def lacked(self, mine, other):
        row = answered(take(collection_octets(1, mine)), lacking(collection_octets(1, other)))
        return row[1]

    def test_all_none_some(self):
        records = [record_octets(*name, version=3) for name in NAMES]
        self.assertEqual(self.lacked(records, []), told(collection_octets(1, records)))
        self.assertEqual(self.lacked(records, records), told(collection_octets(1, [])))
        self.assertEqual(self.lacked([], records), told(collection_octets(1, [])))
        self.assertEqual(self.lacked(records, [records[1]]), told(collection_octets(1, [records[0], records[2]])))

    def test_lesser_and_greater(self):
        mine = [record_octets(*name, version=3, day=5) for name in NAMES]
        lesser = [record_octets(1, 1, version=2, day=6), record_octets(1, 2, version=3, day=4)]
        greater = [record_octets(1, 1, version=4), record_octets(1, 2, version=3, day=6)]
        self.assertEqual(self.lacked(mine, lesser), told(collection_octets(1, mine)))
        self.assertEqual(self.lacked(mine, greater), told(collection_octets(1, [mine[2]])))
        self.assertEqual(self.lacked(mine, [greater[0], mine[1], record_octets(5, 5)]),
                         told(collection_octets(1, [mine[2]])))

    def test_what_is_lacking_is_enough(self):
        for mine, other in itertools.product(some_collections(), repeat=2):
            lacked = self.lacked(mine, other)[2:]
            row = answered(take(collection_octets(1, other)), join(lacked), whole())
            self.assertEqual(row[2], told(collection_octets(1, greatest(mine, other))))

    def test_no_more_than_is_lacking(self):
        for mine, other in itertools.product(some_collections(), repeat=2):
            expected = [octets for octets in greatest(mine, other) if octets in mine and octets not in other]
            self.assertEqual(self.lacked(mine, other), told(collection_octets(1, expected)))

    def test_changes_nothing(self):
        for mine, other in itertools.product(some_collections(), repeat=2):
            octets = collection_octets(1, mine)
            row = answered(take(octets), lacking(collection_octets(1, other)), whole())
            self.assertEqual(row[2], told(octets))


class RecordTold(unittest.TestCase):
    def test_there_and_not_there(self):
        octets = record_octets(3, 4, 5, 6, (7,), 1, 8, 9, (10,))
        calls = [new(1), put(octets), record(3, 4), record(4, 3), record(3, 5), record(2, 4), record(0, 0)]
        self.assertEqual(answered(*calls), [[0], [0], told(octets), [-2], [-2], [-2], [-2]])

    def test_at_and_above_2_to_the_32(self):
        top = 2 ** 32 - 1
        octets = record_octets(0, top)
        calls = [new(1), put(octets), put(record_octets(1, 0)), record(0, top)]
        above = [(2 ** 32, top), (0, 2 ** 32), (1, 2 ** 32), (2 ** 32 + 1, 0), (ALL, ALL), (0, ALL), (ALL, top)]
        row = answered(*calls, *[record(*name) for name in above])
        self.assertEqual(row, [[0], [0], [0], told(octets)] + [[-2]] * len(above))

    def test_bytes_of_the_greater_one(self):
        greater = record_octets(1, 1, version=2)
        calls = [new(1), put(greater), put(record_octets(1, 1, version=1, day=4)), record(1, 1)]
        self.assertEqual(answered(*calls)[3], told(greater))

    def test_a_number_is_not_made_of_hand_and_number_together(self):
        row = answered(new(1), put(record_octets(1, 0)), record(0, 2 ** 32), list_of(0, ALL))
        self.assertEqual(row, [[0], [0], [-2], [0, 2, 1, 0]])

    def test_answer_has_its_bytes_as_whole_numbers(self):
        row = answered(new(1), put(record_octets(1, 1)), record(1, 1))[2]
        self.assertEqual({type(number) for number in row}, {int})
        self.assertEqual(row[2:6], low_first(1, 4))


if __name__ == "__main__":
    unittest.main()
