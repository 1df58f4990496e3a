"""where: the places of records that may be of a kind."""

import itertools
import unittest

from tests.helper import (ALL, answered, book_octets, collection_octets, new, open_book, put, record_octets, take,
                          where)

# Set 1 is certain to be of kind 0, set 2 of kind 1, set 3 may be of both, set 4 is of none.
BOOK = book_octets([(3, 0, 0)], [[[1]], [[2]]])
CERTAIN = (1,)
OTHER = (2,)
EITHER = (3,)
NEITHER = (4,)


def placed(*places):
    """The answer of where: places, each with 1 or 0 behind."""
    row = [0, len(places)]
    for place, certain in places:
        row += [len(place)] + list(place) + [certain]
    return row


class WhereTest(unittest.TestCase):
    def told_of(self, kind, *rows):
        """The answer for records, each given as its place, its set, and whether it is withdrawn."""
        records = [record_octets(1, k, place=row[0], sets=row[1], withdrawn=int(len(row) > 2))
                   for k, row in enumerate(rows)]
        return answered(open_book(BOOK), take(collection_octets(1, records)), where(kind))[2]


class Places(WhereTest):
    def test_none(self):
        self.assertEqual(self.told_of(0), [0, 0])
        self.assertEqual(self.told_of(0, ((1,), OTHER), ((2,), NEITHER)), [0, 0])

    def test_form_of_the_answer(self):
        self.assertEqual(self.told_of(0, ((7, 8), CERTAIN), ((), EITHER)), [0, 2, 0, 0, 2, 7, 8, 1])

    def test_each_once(self):
        rows = [((1, 2), CERTAIN), ((1, 2), EITHER), ((1, 2), CERTAIN), ((3,), EITHER), ((3,), EITHER)]
        self.assertEqual(self.told_of(0, *rows), placed(((1, 2), 1), ((3,), 0)))

    def test_by_their_bytes_a_place_before_those_within_it(self):
        places = [(), (1,), (1, 1), (1, 1, 255), (1, 2), (1, 255), (2,), (2, 1), (9,), (10,), (255,), (255,) * 8]
        for order in (places, places[::-1], places[5:] + places[:5]):
            expected = placed(*[(place, 1) for place in places])
            self.assertEqual(self.told_of(0, *[(place, CERTAIN) for place in order]), expected)

    def test_the_place_of_no_bytes(self):
        self.assertEqual(self.told_of(0, ((), CERTAIN)), placed(((), 1)))
        self.assertEqual(self.told_of(0, ((), EITHER)), placed(((), 0)))

    def test_only_places_of_records_themselves(self):
        self.assertEqual(self.told_of(0, ((1, 2, 3), CERTAIN)), placed(((1, 2, 3), 1)))

    def test_withdrawn_are_left_out(self):
        rows = [((1,), CERTAIN, "withdrawn"), ((2,), EITHER, "withdrawn"), ((3,), EITHER)]
        self.assertEqual(self.told_of(0, *rows), placed(((3,), 0)))

    def test_of_all_days(self):
        records = [record_octets(1, 1, day=0, place=(2,)), record_octets(1, 2, day=2 ** 32 - 1, place=(1,))]
        row = answered(open_book(BOOK), take(collection_octets(1, records)), where(0))
        self.assertEqual(row[2], placed(((1,), 1), ((2,), 1)))


class Certain(WhereTest):
    def test_just_if_one_at_just_that_place_is(self):
        sets = {CERTAIN: (True, 1), EITHER: (True, 0), OTHER: (False, 0), NEITHER: (False, 0)}
        for rows in itertools.product(sets, repeat=3):
            there = any(sets[one][0] for one in rows)
            certain = max(sets[one][1] for one in rows)
            expected = placed(((1,), certain)) if there else [0, 0]
            self.assertEqual(self.told_of(0, *[((1,), one) for one in rows]), expected)

    def test_not_by_one_within_it_or_around_it(self):
        rows = [((), EITHER), ((1,), CERTAIN), ((1, 2), EITHER), ((1, 2, 3), CERTAIN)]
        self.assertEqual(self.told_of(0, *rows), placed(((), 0), ((1,), 1), ((1, 2), 0), ((1, 2, 3), 1)))

    def test_not_by_one_that_is_withdrawn(self):
        self.assertEqual(self.told_of(0, ((1,), CERTAIN, "withdrawn"), ((1,), EITHER)), placed(((1,), 0)))

    def test_not_by_one_that_is_certain_to_be_of_another(self):
        rows = [((1,), OTHER), ((1,), EITHER), ((2,), OTHER)]
        self.assertEqual(self.told_of(0, *rows), placed(((1,), 0)))
        self.assertEqual(self.told_of(1, *rows), placed(((1,), 1), ((2,), 1)))

    def test_whole_numbers_not_truths(self):
        row = self.told_of(0, ((1,), CERTAIN), ((2,), EITHER))
        self.assertEqual({type(number) for number in row}, {int})

    def test_errors(self):
        calls = [open_book(BOOK), new(1), put(record_octets(1, 1, place=(5,), errors=1)), where(0), where(1)]
        self.assertEqual(answered(*calls)[3:], [placed(((5,), 0))] * 2)


class NoSuchKind(WhereTest):
    def test_a_kind_that_there_is_not(self):
        for kind in (2, 3, 2 ** 32, ALL):
            self.assertEqual(self.told_of(kind, ((1,), CERTAIN)), [-2])
            self.assertEqual(self.told_of(kind), [-2])
        self.assertEqual(self.told_of(1), [0, 0])


if __name__ == "__main__":
    unittest.main()
