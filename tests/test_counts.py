"""count, table and odd: how many there are of a kind at least and at most, and the records of no kind."""

import random
import unittest

from tests.helper import (ALL, answered, book_octets, collection_octets, count, join, new, odd, open_book, put,
                          record_octets, slow_kinds, some_book, some_set, table, take)

MOST = 1048576
# A state for each of the first three kinds; the fourth kind has the states of the second and the third.
BOOK = book_octets([(5, 0, 0)], [[[1]], [[2]], [[4]], [[6]]])
NO_KIND = 16


class CountsTest(unittest.TestCase):
    def asked(self, records, *calls, book=BOOK, characters=1):
        row = answered(open_book(book), take(collection_octets(characters, records)), *calls)
        self.assertEqual(row[:2], [[0], [0]])
        return row[2:]


class Count(CountsTest):
    def test_certain_several_none(self):
        records = [record_octets(1, 1, individuals=3, sets=(1,)), record_octets(1, 2, individuals=10, sets=(2,)),
                   record_octets(1, 3, individuals=100, sets=(NO_KIND,)), record_octets(1, 4, individuals=7, sets=(9,)),
                   record_octets(1, 5, individuals=1000, sets=(3,))]
        calls = [count(kind, 0, 0) for kind in range(4)]
        self.assertEqual(self.asked(records, *calls), [[0, 10, 1010], [0, 0, 1010], [0, 0, 0], [0, 0, 1010]])

    def test_two_kinds_alike_are_never_certain(self):
        book = book_octets([(2, 0, 0)], [[[1]], [[1]], [[2]]])
        records = [record_octets(1, 1, individuals=5, sets=(1,)), record_octets(1, 2, individuals=6, sets=(2,))]
        self.assertEqual(self.asked(records, *[count(kind, 0, 0) for kind in range(3)], book=book),
                         [[0, 0, 5], [0, 0, 5], [0, 6, 6]])

    def test_two_forms_of_one_kind_are_certain(self):
        book = book_octets([(2, 0, 0)], [[[1], [2]]])
        records = [record_octets(1, 1, individuals=5, sets=(3,)), record_octets(1, 2, errors=1, individuals=6)]
        self.assertEqual(self.asked(records, count(0, 0, 0), book=book), [[0, 11, 11]])

    def test_errors_make_it_less_certain(self):
        for errors, expected in ((0, [0, 4, 4]), (1, [0, 0, 4])):
            self.assertEqual(self.asked([record_octets(1, 1, individuals=4, errors=errors)], count(0, 0, 0)), [expected])

    def test_a_kind_of_more_errors_makes_it_less_certain(self):
        book = book_octets([(2, 0, 0)] * 2, [[[1, 1]], [[2, 2]]])
        for errors, expected in ((0, [[0, 1, 1], [0, 0, 0]]), (1, [[0, 1, 1], [0, 0, 0]]), (2, [[0, 0, 1], [0, 0, 1]])):
            records = [record_octets(1, 1, sets=(1, 1), errors=errors)]
            self.assertEqual(self.asked(records, count(0, 0, 0), count(1, 0, 0), book=book, characters=2), expected)

    def test_individuals_at_their_edges(self):
        for individuals in (1, MOST):
            records = [record_octets(1, 1, individuals=individuals)]
            self.assertEqual(self.asked(records, count(0, 0, 0)), [[0, individuals, individuals]])
        records = [record_octets(1, k, individuals=MOST) for k in range(60)]
        self.assertEqual(self.asked(records, count(0, 0, 0)), [[0, 60 * MOST, 60 * MOST]])

    def test_days_and_places(self):
        records = [record_octets(1, k, day=10 + k, place=(1, 2, 3)[:k % 4], individuals=1 << k) for k in range(12)]
        for first, last, place, numbers in ((10, 21, (), range(12)), (12, 14, (), (2, 3, 4)), (13, 13, (), (3,)),
                                            (0, 9, (), ()), (22, ALL, (), ()), (10, 21, (1,), (1, 2, 3, 5, 6, 7, 9, 10, 11)),
                                            (10, 21, (1, 2), (2, 3, 6, 7, 10, 11)), (11, 20, (1, 2, 3), (3, 7)),
                                            (10, 21, (2,), ()), (10, 21, (1, 2, 3, 4), ())):
            total = sum(1 << k for k in numbers)
            self.assertEqual(self.asked(records, count(0, first, last, place)), [[0, total, total]])

    def test_withdrawn(self):
        records = [record_octets(1, 1, individuals=5, withdrawn=1), record_octets(1, 2, individuals=6)]
        self.assertEqual(self.asked(records, count(0, 0, 0)), [[0, 6, 6]])

    def test_no_records(self):
        self.assertEqual(self.asked([], count(3, 0, ALL), table(0, ALL), odd()), [[0, 0, 0], [0, 0], [0, 0]])

    def test_a_kind_that_there_is_not(self):
        calls = [count(kind, 0, 0) for kind in (4, 5, 2 ** 32, ALL)]
        self.assertEqual(self.asked([record_octets(1, 1)], *calls), [[-2]] * 4)
        self.assertEqual(self.asked([], count(3, 0, 0), count(4, 0, 0)), [[0, 0, 0], [-2]])

    def test_changes_of_a_record(self):
        calls = [open_book(BOOK), new(1), put(record_octets(1, 1, version=1, individuals=5)), count(0, 0, 0),
                 put(record_octets(1, 1, version=2, individuals=3, sets=(1,))), count(0, 0, 0),
                 put(record_octets(1, 1, version=3, individuals=3, sets=(2,))), count(0, 0, 0),
                 put(record_octets(1, 1, version=4, withdrawn=1)), count(0, 0, 0)]
        self.assertEqual(answered(*calls)[3::2], [[0, 5, 5], [0, 3, 3], [0, 0, 0], [0, 0, 0]])


class Table(CountsTest):
    def test_certain_several_none(self):
        records = [record_octets(1, 1, individuals=3, sets=(1,)), record_octets(1, 2, individuals=10, sets=(2,)),
                   record_octets(1, 3, individuals=100, sets=(NO_KIND,)), record_octets(1, 4, individuals=20, sets=(3,))]
        self.assertEqual(self.asked(records, table(0, 0)), [[0, 9, 0, 3, 23, 1, 0, 30, 3, 0, 30]])

    def test_kinds_of_which_there_is_none_are_left_out(self):
        self.assertEqual(self.asked([record_octets(1, 1, sets=(4,))], table(0, 0)), [[0, 6, 2, 0, 1, 3, 0, 1]])
        self.assertEqual(self.asked([record_octets(1, 1, sets=(1,))], table(0, 0)), [[0, 3, 0, 1, 1]])
        self.assertEqual(self.asked([record_octets(1, 1, sets=(NO_KIND,))], table(0, 0)), [[0, 0]])
        self.assertEqual(self.asked([record_octets(1, 1, withdrawn=1)], table(0, 0)), [[0, 0]])

    def test_by_kinds_not_by_errors(self):
        self.assertEqual(self.asked([record_octets(1, 1, sets=(4,), errors=1)], table(0, 0)),
                         [[0, 12, 0, 0, 1, 1, 0, 1, 2, 0, 1, 3, 0, 1]])

    def test_days_and_places(self):
        records = [record_octets(1, 1, day=5, place=(1,)), record_octets(1, 2, day=6, place=(1, 2), individuals=7),
                   record_octets(1, 3, day=7, place=(2,), sets=(2,))]
        calls = [table(5, 5), table(6, 7), table(7, 7), table(0, 9, (1,)), table(0, 9, (1, 2)), table(8, 9), table(0, 4),
                 table(0, 9, (3,))]
        self.assertEqual(self.asked(records, *calls),
                         [[0, 3, 0, 1, 1], [0, 9, 0, 7, 7, 1, 0, 1, 3, 0, 1], [0, 6, 1, 0, 1, 3, 0, 1],
                          [0, 3, 0, 8, 8], [0, 3, 0, 7, 7], [0, 0], [0, 0], [0, 0]])

    def test_as_counted_kind_by_kind(self):
        chance = random.Random(21)
        for k in range(60):
            characters, kinds = some_book(chance)
            records = []
            least = [0] * len(kinds)
            most = [0] * len(kinds)
            for number in range(8):
                sets = [some_set(chance, c[0]) for c in characters]
                errors = chance.randint(0, 1)
                individuals = chance.randint(1, MOST)
                records.append(record_octets(0, number, individuals=individuals, errors=errors, sets=sets))
                found = [kind for kind, ignored in slow_kinds(characters, kinds, sets, errors)]
                for kind in found:
                    most[kind] += individuals
                    least[kind] += individuals if found == [kind] else 0
            expected = [n for kind in range(len(kinds)) if most[kind] for n in (kind, least[kind], most[kind])]
            calls = [table(0, 0)] + [count(kind, 0, 0) for kind in range(len(kinds))]
            row = self.asked(records, *calls, book=book_octets(characters, kinds), characters=len(characters))
            self.assertEqual(row, [[0, len(expected)] + expected]
                             + [[0, least[kind], most[kind]] for kind in range(len(kinds))])


class TwoPartsAddUp(CountsTest):
    def records(self):
        chance = random.Random(22)
        return [record_octets(k % 4, k, day=chance.randint(0, 9), place=[chance.randint(1, 2) for j in range(k % 3)],
                              individuals=chance.randint(1, 50), sets=(chance.randint(1, 31),), withdrawn=k % 7 == 6)
                for k in range(40)]

    def adds_up(self, whole, *parts):
        calls = [count(kind, *one) for kind in range(4) for one in (whole,) + parts]
        row = self.asked(sorted(self.records(), key=lambda octets: (octets[0], octets[4])), *calls)
        size = 1 + len(parts)
        for kind in range(4):
            counted = row[kind * size:(kind + 1) * size]
            self.assertEqual(counted[0][1:], [sum(one[k] for one in counted[1:]) for k in (1, 2)])
            self.assertGreater(counted[0][2], 0)

    def test_days(self):
        for last in range(9):
            self.adds_up((0, 9), (0, last), (last + 1, 9))
            self.adds_up((0, 9, (1,)), (0, last, (1,)), (last + 1, 9, (1,)))

    def test_records_in_two_collections(self):
        records = sorted(self.records(), key=lambda octets: (octets[0], octets[4]))
        halves = [records[::2], records[1::2]]
        calls = [count(kind, 0, 9) for kind in range(4)]
        rows = [self.asked(half, *calls) for half in halves]
        octets = [collection_octets(1, half) for half in halves]
        both = answered(open_book(BOOK), take(octets[0]), join(octets[1]), *calls)[3:]
        for one, other, together in zip(*rows, both):
            self.assertEqual(together[1:], [one[1] + other[1], one[2] + other[2]])


class Odd(CountsTest):
    def test_of_no_kind(self):
        records = [record_octets(1, 1), record_octets(1, 2, sets=(NO_KIND,)), record_octets(1, 3, sets=(8,)),
                   record_octets(1, 4, sets=(24,)), record_octets(1, 5, sets=(25,)),
                   record_octets(1, 6, sets=(8,), errors=1)]
        self.assertEqual(self.asked(records, odd()), [[0, 6, 1, 2, 1, 3, 1, 4]])

    def test_withdrawn_are_left_out(self):
        records = [record_octets(1, 1, sets=(8,)), record_octets(1, 2, sets=(8,), withdrawn=1),
                   record_octets(1, 3, sets=(8,))]
        self.assertEqual(self.asked(records, odd()), [[0, 4, 1, 1, 1, 3]])
        self.assertEqual(self.asked(records[1:2], odd()), [[0, 0]])

    def test_of_all_days_and_places(self):
        records = [record_octets(1, 1, day=2 ** 32 - 1, place=(255,) * 8, sets=(8,)), record_octets(2, 0, sets=(8,))]
        self.assertEqual(self.asked(records, odd()), [[0, 4, 1, 1, 2, 0]])

    def test_by_hand_then_by_number_however_put(self):
        names = [(256, 0), (1, 256), (2 ** 32 - 1, 0), (1, 255), (0, 2 ** 32 - 1), (2, 1), (255, 3)]
        row = answered(open_book(BOOK), new(1), *[put(record_octets(*name, sets=(8,))) for name in names], odd())[-1]
        self.assertEqual(row, [0, 14] + [number for name in sorted(names) for number in name])

    def test_errors_just_enough_and_one_too_few(self):
        book = book_octets([(2, 0, 0)] * 3, [[[1, 1, 1]], [[1, 1, 2]]])
        records = [record_octets(1, errors, sets=(2, 2, 1), errors=errors) for errors in range(4)]
        self.assertEqual(self.asked(records, odd(), book=book, characters=3), [[0, 4, 1, 0, 1, 1]])

    def test_a_character_that_cannot_apply(self):
        book = book_octets([(2, 0, 0), (2, 1, 2)], [[[1, 1]]])
        records = [record_octets(1, k, sets=sets) for k, sets in enumerate(((1, 1), (2, 2), (3, 2), (3, 3)))]
        self.assertEqual(self.asked(records, odd(), book=book, characters=2), [[0, 4, 1, 1, 1, 2]])


if __name__ == "__main__":
    unittest.main()
