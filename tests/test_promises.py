"""The promises of counts and places, against all choices of individuals of small books."""

import itertools
import random
import unittest

from tests.helper import (answered, book_octets, collection_octets, count, errors_against, individuals, is_of, kinds,
                          odd, open_book, part, record_octets, some_book, some_set, table, take, where)

# At the last of these is one record alone, of one kind.
PLACES = [(), (1,), (1, 1), (1, 2), (1, 2, 1), (2,), (2, 2), (3,)]


def records_of(specimens):
    """specimens: (sets, errors, individuals) each."""
    return [record_octets(1, k, sets=sets, errors=errors, individuals=individuals)
            for k, (sets, errors, individuals) in enumerate(specimens)]


def counted(characters, of_book, specimens):
    """Of each kind: at least, at most."""
    octets = collection_octets(len(characters), records_of(specimens))
    calls = [count(kind, 0, 0) for kind in range(len(of_book))]
    return [row[1:] for row in answered(open_book(book_octets(characters, of_book)), take(octets), *calls)[2:]]


def may_be(characters, of_book, sets, errors):
    octets = collection_octets(len(characters), [record_octets(1, 1, sets=sets, errors=errors)])
    return answered(open_book(book_octets(characters, of_book)), take(octets), kinds(1, 1))[2][2::2]


def some_specimens(chance, characters, most):
    return [([some_set(chance, c[0]) for c in characters], chance.randint(0, 2), chance.randint(1, 2))
            for k in range(chance.randint(1, most))]


def memberships(characters, of_book, sets, errors):
    """For each individual that agrees and is of kinds of the book: of which; each such row once."""
    rows = {}
    for individual in individuals(characters):
        kinds_of_it = tuple(int(is_of(individual, forms)) for forms in of_book)
        if errors_against(individual, sets) <= errors and any(kinds_of_it):
            rows[kinds_of_it] = True
    return list(rows)


def choices(characters, of_book, specimens):
    """How many of each kind there are, for every choice of an individual for each that was seen."""
    seen = []
    for sets, errors, how_many in specimens:
        rows = memberships(characters, of_book, sets, errors)
        if rows:
            seen += [rows] * how_many
    for choice in itertools.product(*seen):
        yield [sum(row[kind] for row in choice) for kind in range(len(of_book))]


def has_none_in_common(characters, of_book):
    return all(sum(is_of(row, forms) for forms in of_book) <= 1 for row in individuals(characters))


class CountsBoundEveryChoice(unittest.TestCase):
    def test_every_choice_and_the_most(self):
        chance = random.Random(31)
        for k in range(150):
            characters, of_book = some_book(chance, 4, 3)
            specimens = some_specimens(chance, characters, 3)
            bounds = counted(characters, of_book, specimens)
            rows = list(choices(characters, of_book, specimens))
            for kind, (least, most) in enumerate(bounds):
                numbers = [row[kind] for row in rows]
                self.assertTrue(all(least <= number <= most for number in numbers))
                self.assertEqual(max(numbers), most)

    def test_the_least_where_no_two_kinds_have_one_in_common(self):
        chance = random.Random(32)
        tried = 0
        above_none = 0
        while tried < 150:
            characters, of_book = some_book(chance, 4, 4, narrow=True)
            if has_none_in_common(characters, of_book):
                tried += 1
                specimens = some_specimens(chance, characters, 3)
                rows = list(choices(characters, of_book, specimens))
                for kind, (least, most) in enumerate(counted(characters, of_book, specimens)):
                    self.assertEqual(min(row[kind] for row in rows), least)
                    above_none += least > 0
        self.assertGreater(above_none, 10)

    def test_the_least_need_not_be_come_to_where_they_have(self):
        # All of the first kind are of the second: one that is of the first is of both, and so certain of neither.
        of_book = [[[1]], [[3]]]
        specimens = [([1], 0, 1)]
        self.assertEqual(counted([(2, 0, 0)], of_book, specimens), [[0, 1], [0, 1]])
        self.assertEqual(list(choices([(2, 0, 0)], of_book, specimens)), [[1, 1]])


class MoreSeenNarrowerBounds(unittest.TestCase):
    def test_fewer_states_or_errors(self):
        chance = random.Random(33)
        narrower = 0
        for k in range(300):
            characters, of_book = some_book(chance, 4, 4)
            sets = [some_set(chance, c[0]) for c in characters]
            errors = chance.randint(0, 2)
            fewer = [states & some_set(chance, c[0]) or states for states, c in zip(sets, characters)]
            fewer_errors = chance.randint(0, errors)
            before = may_be(characters, of_book, sets, errors)
            after = may_be(characters, of_book, fewer, fewer_errors)
            self.assertLessEqual(set(after), set(before))
            if after:
                wide = counted(characters, of_book, [(sets, errors, 5)])
                narrow = counted(characters, of_book, [(fewer, fewer_errors, 5)])
                for (least, most), (least_now, most_now) in zip(wide, narrow):
                    self.assertTrue(least <= least_now <= most_now <= most)
                narrower += wide != narrow
        self.assertGreater(narrower, 20)


class PlacesPart(unittest.TestCase):
    BOOK = book_octets([(4, 0, 0)], [[[1]], [[2]], [[6]]])

    def records(self):
        chance = random.Random(34)
        many = [record_octets(k // 9, k, day=k % 5, place=chance.choice(PLACES[:-1]), sets=(some_set(chance, 4),),
                              individuals=chance.randint(1, 9), withdrawn=int(k % 8 == 7)) for k in range(50)]
        return many + [record_octets(99, 0, day=2, place=PLACES[-1], sets=(1,))]

    def asked(self, records, *calls):
        return answered(open_book(self.BOOK), take(collection_octets(1, records)), *calls)[2:]

    def at_just(self, place):
        """The records at just that place."""
        return [octets for octets in self.records() if octets[16:24] == list(place) + [0] * (8 - len(place))]

    def test_counts_of_a_place_are_those_of_it_alone_and_of_its_places(self):
        for place in PLACES:
            for kind in range(3):
                alone = self.asked(self.at_just(place), count(kind, 1, 3))
                calls = [count(kind, 1, 3, place)] + [count(kind, 1, 3, place + (k,)) for k in range(1, 256)]
                whole = self.asked(self.records(), *calls)
                for k in (1, 2):
                    self.assertEqual(whole[0][k], alone[0][k] + sum(row[k] for row in whole[1:]))

    def test_parts_of_a_place_too(self):
        for place in PLACES:
            calls = [part(0, 9, place)] + [part(0, 9, place + (k,)) for k in range(1, 256)]
            rows = self.asked(self.records(), *calls)
            alone = self.asked(self.at_just(place), part(0, 9))[0]
            apart = [row[12 + k:12 + k + 39] for row in [alone] + rows[1:] for k in range(0, len(row) - 12, 39)]
            self.assertEqual(sorted(apart), sorted(rows[0][12 + k:12 + k + 39] for k in range(0, len(rows[0]) - 12, 39)))

    def test_a_kind_is_certain_of_a_place_just_if_some_record_there_is(self):
        seen = {}
        for kind in range(3):
            told = {}
            row = self.asked(self.records(), where(kind))[0]
            at = 2
            for k in range(row[1]):
                size = row[at]
                told[tuple(row[at + 1:at + 1 + size])] = row[at + 1 + size]
                at += 2 + size
            self.assertEqual(at, len(row))
            for place in PLACES:
                least, most = self.asked(self.at_just(place), count(kind, 0, 9))[0][1:]
                self.assertEqual(told.get(place), int(least > 0) if most else None)
                seen[told.get(place)] = True
        self.assertEqual(set(seen), {0, 1, None})

    def test_what_the_calls_tell_fits_together(self):
        names = [(k // 9, k) for k in range(50) if k % 8 != 7]
        row = self.asked(self.records(), odd(), *[kinds(*name) for name in names])
        of_none = [number for name, answer in zip(names, row[1:]) if answer == [0, 0] for number in name]
        self.assertEqual(row[0], [0, len(of_none)] + of_none)
        self.assertGreater(len(of_none), 0)
        for first, last, place in itertools.product((0, 2), (2, 4), PLACES):
            row = self.asked(self.records(), table(first, last, place),
                             *[count(kind, first, last, place) for kind in range(3)])
            listed = [number for kind in range(3) if row[1 + kind][2] for number in [kind] + row[1 + kind][1:]]
            self.assertEqual(row[0], [0, len(listed)] + listed)


if __name__ == "__main__":
    unittest.main()
