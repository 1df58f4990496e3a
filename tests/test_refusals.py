"""The refusals of the calls 9 to 16, in their order where several hold."""

import itertools
import unittest

from tests.helper import (ALL, answered, book_octets, bytes_of, collection_octets, count, join, kinds, lacking, list_of,
                          new, odd, open_book, part, put, record, record_octets, table, take, tally, told, where)

BOOK = book_octets([(3, 0, 0)], [[[1]], [[6]]])
WIDER = book_octets([(4, 0, 0)], [[[8]]])
OF_TWO = book_octets([(3, 0, 0)] * 2, [[[1, 1]]])
THERE = collection_octets(1, [record_octets(1, 1), record_octets(1, 2, sets=(7,))])
# Its second record has a state that only the wider book's character has.
STRANGE = collection_octets(1, [record_octets(1, 1), record_octets(1, 2, sets=(8,))])

# Arguments that are wrong by themselves: days, a place.
WRONG = [(1, 0, ()), (0, 0, (0,)), (0, 0, (1,) * 9), (1, 0, (0,)), (0, 0, (1, 0, 2))]


def with_days_and_place(*arguments):
    return [part(*arguments), count(0, *arguments), table(*arguments)]


def all_calls():
    return with_days_and_place(0, 0) + [kinds(1, 1), odd(), where(0), bytes_of(), tally()]


def calls_with_the_book():
    return [kinds(1, 1), count(0, 0, 0), table(0, 0), odd(), where(0)]


class NoCollectionOrNoBook(unittest.TestCase):
    def test_no_collection(self):
        for call in all_calls():
            self.assertEqual(answered(call), [[-9]])
            self.assertEqual(answered(open_book(BOOK), call), [[0], [-9]])
            self.assertEqual(answered(open_book(BOOK), new(0), take([]), call)[3], [-9])

    def test_no_book(self):
        for call in calls_with_the_book():
            self.assertEqual(answered(take(THERE), call), [[0], [-9]])
            self.assertEqual(answered(open_book([]), take(THERE), call)[2], [-9])
            self.assertEqual(answered(take(THERE), open_book(BOOK), call)[2][0], 0)

    def test_those_that_need_no_book(self):
        calls = [part(0, 0), bytes_of(), tally(), list_of(0, 0)]
        self.assertEqual(answered(take(THERE), *calls), [[0], told(THERE), told(THERE), [0, 1, 2], [0, 4, 1, 1, 1, 2]])

    def test_ahead_of_wrong_arguments(self):
        for arguments in WRONG:
            for call in with_days_and_place(*arguments):
                self.assertEqual(answered(call), [[-9]])
                self.assertEqual(answered(open_book(BOOK), call)[1], [-9])
            for call in with_days_and_place(*arguments)[1:] + [count(99, *arguments)]:
                self.assertEqual(answered(take(THERE), call)[1], [-9])
            self.assertEqual(answered(take(THERE), part(*arguments))[1], [-1])

    def test_ahead_of_no_such_record_or_kind(self):
        for call in (kinds(9, 9), count(9, 0, 0), where(9), where(ALL)):
            self.assertEqual(answered(call), [[-9]])
            self.assertEqual(answered(open_book(BOOK), call)[1], [-9])
            self.assertEqual(answered(take(THERE), call)[1], [-9])


class WrongArguments(unittest.TestCase):
    def test_ahead_of_a_book_that_does_not_fit(self):
        for book, octets in ((BOOK, STRANGE), (OF_TWO, THERE)):
            for arguments in WRONG:
                calls = with_days_and_place(*arguments)
                self.assertEqual(answered(open_book(book), take(octets), *calls)[2:], [[-1]] * 3)

    def test_ahead_of_no_such_kind(self):
        for arguments in WRONG:
            for kind in (2, 99, ALL):
                for book, octets in ((BOOK, THERE), (BOOK, STRANGE)):
                    self.assertEqual(answered(open_book(book), take(octets), count(kind, *arguments))[2], [-1])

    def test_at_the_edges(self):
        good = [(0, 0, (1,) * 8), (5, 5, ()), (ALL, ALL, (255,))]
        for arguments in good:
            row = answered(open_book(BOOK), take(THERE), *with_days_and_place(*arguments))
            self.assertEqual([answer[0] for answer in row], [0] * 5)


class DoesNotGo(unittest.TestCase):
    def refuses(self, book, octets):
        calls = calls_with_the_book()
        self.assertEqual(answered(open_book(book), take(octets), *calls)[2:], [[-3]] * len(calls))

    def goes(self, book, octets):
        row = answered(open_book(book), take(octets), *calls_with_the_book())
        self.assertEqual([answer[0] for answer in row], [0] * 7)

    def test_another_number_of_characters(self):
        two = collection_octets(2, [record_octets(1, 1, sets=(1, 1))])
        self.goes(OF_TWO, two)
        self.refuses(OF_TWO, THERE)
        self.refuses(BOOK, two)
        self.refuses(BOOK, collection_octets(2, []))
        self.refuses(OF_TWO, collection_octets(1, []))
        self.refuses(BOOK, collection_octets(256, []))

    def test_without_records(self):
        row = answered(open_book(BOOK), new(1), kinds(1, 1), count(1, 0, 0), table(0, 0), odd(), where(1))
        self.assertEqual(row[2:], [[-2], [0, 0, 0], [0, 0], [0, 0], [0, 0]])

    def test_a_state_that_the_character_has_not(self):
        self.refuses(BOOK, STRANGE)
        self.goes(WIDER, STRANGE)
        for states in (8, 9, 15, 2 ** 63, ALL):
            self.refuses(BOOK, collection_octets(1, [record_octets(1, 1, sets=(states,))]))
        for states in range(1, 8):
            self.goes(BOOK, collection_octets(1, [record_octets(1, 1, sets=(states,))]))

    def test_of_each_character(self):
        book = book_octets([(2, 0, 0), (64, 0, 0), (4, 0, 0)], [[[1, 1, 1]]])
        for sets, good in (((3, ALL, 15), True), ((4, 1, 1), False), ((1, 1, 16), False), ((1, ALL, 1), True),
                           ((2, 2 ** 63, 8), True), ((1, 1, 2 ** 63), False), ((7, 1, 1), False)):
            octets = collection_octets(3, [record_octets(1, 1, sets=sets)])
            if good:
                self.goes(book, octets)
            else:
                self.refuses(book, octets)

    def test_of_a_record_that_is_withdrawn_or_does_not_count(self):
        for changed in ({"withdrawn": 1}, {"day": 7}, {"place": (9,)}):
            self.refuses(BOOK, collection_octets(1, [record_octets(1, 1), record_octets(5, 5, sets=(8,), **changed)]))
        octets = collection_octets(1, [record_octets(1, 1), record_octets(5, 5, sets=(8,), day=7, place=(9,))])
        calls = [count(0, 0, 0, (1,)), table(0, 0, (1,))]
        self.assertEqual(answered(open_book(BOOK), take(octets), *calls)[2:], [[-3], [-3]])

    def test_went_with_one_book_and_not_with_the_next(self):
        for call in calls_with_the_book():
            row = answered(take(STRANGE), open_book(WIDER), call, open_book(BOOK), call, open_book(WIDER), call)
            self.assertEqual([row[2][0], row[4], row[6]], [0, [-3], row[2]])
            row = answered(take(STRANGE), open_book(WIDER), call, open_book(OF_TWO), call)
            self.assertEqual([row[2][0], row[4]], [0, [-3]])

    def test_until_the_record_is_another(self):
        later = record_octets(1, 2, version=1, sets=(4,))
        for call in calls_with_the_book():
            row = answered(open_book(BOOK), take(STRANGE), call, put(later), call)
            self.assertEqual([row[2], row[4][0]], [[-3], 0])
            row = answered(open_book(BOOK), take(THERE), call, join(STRANGE), call)
            self.assertEqual(row[2][0], 0)
            self.assertEqual(row[4], [-3])

    def test_ahead_of_no_such_record_or_kind(self):
        calls = [kinds(9, 9), count(9, 0, 0), where(9), where(ALL), count(ALL, 0, 0)]
        for book, octets in ((BOOK, STRANGE), (OF_TWO, THERE), (BOOK, collection_octets(2, []))):
            self.assertEqual(answered(open_book(book), take(octets), *calls)[2:], [[-3]] * 5)
        self.assertEqual(answered(open_book(BOOK), take(THERE), *calls)[2:], [[-2]] * 5)

    def test_of_no_other_call(self):
        calls = [list_of(0, 0), record(1, 1), lacking(STRANGE), part(0, 0), bytes_of(), tally(), put(record_octets(2, 2)),
                 join(THERE)]
        row = answered(open_book(BOOK), take(STRANGE), *calls)
        self.assertEqual([answer[0] for answer in row], [0] * 10)


class ChangesNothing(unittest.TestCase):
    def test_refused_calls(self):
        refused = [part(1, 0), part(0, 0, (0,)), kinds(9, 9), count(2, 0, 0), count(0, 1, 0), count(0, 0, 0, (0,)),
                   table(1, 0), table(0, 0, (0,)), where(2), open_book(BOOK[:-1]), new(0), take([]), put([])]
        asked = all_calls()
        expected = answered(open_book(BOOK), take(THERE), *asked)[2:]
        for call in refused:
            row = answered(open_book(BOOK), take(THERE), call, *asked)
            self.assertLess(row[2][0], 0)
            self.assertEqual(row[3:], expected)

    def test_calls_that_only_tell(self):
        asked = all_calls()
        expected = answered(open_book(BOOK), take(THERE), *asked)[2:]
        for order in itertools.islice(itertools.permutations(range(len(asked))), 0, None, 397):
            row = answered(open_book(BOOK), take(THERE), *[asked[k] for k in order])[2:]
            self.assertEqual(row, [expected[k] for k in order])

    def test_a_book_that_does_not_fit_changes_nothing(self):
        row = answered(open_book(BOOK), take(STRANGE), *calls_with_the_book(), bytes_of(), open_book(WIDER), table(0, 0))
        self.assertEqual(row[7:], [told(STRANGE), [0], [0, 3, 0, 1, 1]])


if __name__ == "__main__":
    unittest.main()
