"""open: a book's bytes, judged from front to back."""

import itertools
import unittest

from manyhandsdesk.books import read_book
from manyhandsdesk.gathering import Desk, answer
from tests.helper import (BOOK_MARK, answered, book_octets, collection_octets, individuals, is_of, list_of, low_first,
                          new, open_book, take, with_book_head)

FREE = (2, 0, 0)
ONE_KIND = [[[1]]]


def form_has_one(characters, form):
    return any(is_of(row, [form]) for row in individuals(characters))


class OpenTest(unittest.TestCase):
    def judged(self, octets, expected):
        self.assertEqual(answered(open_book(octets)), [expected])

    def broken(self, octets, rule, place):
        self.judged(octets, [-5, rule, place])


class TakenBooks(OpenTest):
    def test_smallest(self):
        self.judged(book_octets([FREE], ONE_KIND), [0])

    def test_several(self):
        characters = [(3, 0, 0), (64, 1, 0b110), (2, 2, 2 ** 63 + 2), (5, 0, 0)]
        kinds = [[[1, 1, 1, 31]], [[6, 2 ** 63, 2, 1], [2, 4, 1, 16]]]
        self.judged(book_octets(characters, kinds), [0])

    def test_what_is_kept(self):
        book = read_book(book_octets([(3, 0, 0), (4, 1, 6)], [[[1, 1]], [[6, 14], [4, 8]]]))
        self.assertEqual([(c.states, c.parent, c.applies_in) for c in book.characters], [(3, None, 0), (4, 0, 6)])
        self.assertEqual(book.forms_of, [[[1, 1]], [[6, 14], [4, 8]]])

    def test_may_be_asked_without_a_collection_and_with_one(self):
        octets = book_octets([FREE], ONE_KIND)
        self.assertEqual(answered(open_book(octets), new(1), open_book(octets)), [[0], [0], [0]])

    def test_leaves_the_collection(self):
        octets = book_octets([FREE], ONE_KIND)
        self.assertEqual(answered(new(1), open_book(octets), list_of(0, 0)), [[0], [0], [0, 0]])


class Rule1(OpenTest):
    def test_fewer_than_16(self):
        octets = book_octets([FREE], ONE_KIND)
        for size in range(16):
            self.broken(octets[:size], 1, 0)

    def test_fewer_than_16_though_the_length_is_right(self):
        self.broken(BOOK_MARK + low_first(15, 4) + low_first(1, 4) + [1, 0, 0], 1, 0)

    def test_another_mark(self):
        for at in range(4):
            octets = book_octets([FREE], ONE_KIND)
            octets[at] += 1
            self.broken(octets, 1, 0)

    def test_a_collections_mark(self):
        self.broken(collection_octets(1, []) + [0] * 6, 1, 0)

    def test_another_length(self):
        octets = book_octets([FREE], ONE_KIND)
        for length in (0, len(octets) - 1, len(octets) + 1, len(octets) + 256, 2 ** 32 - 1):
            self.broken(octets[:4] + low_first(length, 4) + octets[8:], 1, 4)
        self.broken(octets + [0], 1, 4)
        self.broken(octets[:-1], 1, 4)

    def test_end_within_a_number_or_ahead_of_one(self):
        octets = book_octets([(3, 0, 0), (3, 1, 2)], [[[1, 1]], [[2, 6], [4, 1]]])
        for size in range(16, len(octets)):
            self.broken(with_book_head(octets[16:size], 2, 2), 1, size)


class Rule2(OpenTest):
    def test_no_characters(self):
        self.broken(with_book_head([0] * 50, 0, 1), 2, 8)

    def test_most_characters(self):
        self.judged(book_octets([FREE] * 256, [[[1] * 256]]), [0])
        self.broken(book_octets([FREE] * 257, [[[1] * 257]]), 2, 8)
        self.broken(with_book_head([], 2 ** 32 - 1, 1), 2, 8)

    def test_no_kinds(self):
        self.broken(book_octets([FREE], []), 2, 12)

    def test_most_kinds(self):
        self.judged(book_octets([FREE], ONE_KIND * 4096), [0])
        self.broken(book_octets([FREE], ONE_KIND * 4097), 2, 12)
        self.broken(with_book_head([], 1, 2 ** 32 - 1), 2, 12)

    def test_bounds_of_the_numbers_handed_in(self):
        self.judged(book_octets([FREE] * 16, [[[1] * 16]] * 24), [0])


class Rule3(OpenTest):
    def character(self, character, expected, ahead=()):
        characters = list(ahead) + [character]
        self.judged(book_octets(characters, [[[3] * len(characters)]]), expected)

    def test_states(self):
        for states in (0, 1, 65, 258, 65535):
            self.character((states, 0, 0), [-5, 3, 16])
            self.character((states, 0, 0), [-5, 3, 28], [FREE])
        for states in (2, 64):
            self.character((states, 0, 0), [0])

    def test_hangs_on_an_earlier_one(self):
        self.character((2, 1, 1), [-5, 3, 18])
        self.character((2, 2, 1), [-5, 3, 30], [FREE])
        self.character((2, 257, 1), [-5, 3, 30], [FREE])
        self.character((2, 65535, 1), [-5, 3, 42], [FREE, FREE])
        self.character((2, 1, 1), [0], [FREE, FREE])
        self.character((2, 2, 1), [0], [FREE, FREE])

    def test_set_of_a_free_one(self):
        for applies_in in (1, 2, 2 ** 63):
            self.character((2, 0, applies_in), [-5, 3, 20])

    def test_set_of_one_that_hangs(self):
        for applies_in in (0, 8, 15, 2 ** 63):
            self.character((2, 1, applies_in), [-5, 3, 32], [(3, 0, 0)])
        for applies_in in (1, 4, 7):
            self.character((2, 1, applies_in), [0], [(3, 0, 0)])
        self.character((2, 1, 2 ** 64 - 1), [0], [(64, 0, 0)])

    def test_state_0_of_one_that_hangs_itself(self):
        ahead = [FREE, (3, 1, 1)]
        for applies_in in (1, 3, 7):
            self.character((2, 2, applies_in), [-5, 3, 44], ahead)
        for applies_in in (2, 4, 6):
            self.character((2, 2, applies_in), [0], ahead)


class Rules4And5(OpenTest):
    def test_forms(self):
        head = low_first(2, 2) + low_first(0, 10)
        for forms in (0, 17, 256, 2 ** 32 - 1):
            self.broken(with_book_head(head + low_first(forms, 4) + low_first(1, 8) * 17, 1, 1), 4, 28)
        for forms in (1, 16):
            self.judged(book_octets([FREE], [[[1]] * forms]), [0])

    def test_forms_of_a_later_kind(self):
        self.broken(book_octets([FREE], [[[1]], [[1]] * 17]), 4, 40)

    def test_empty_set(self):
        self.broken(book_octets([FREE], [[[0]]]), 5, 32)
        self.broken(book_octets([FREE, FREE], [[[1, 1], [1, 0]]]), 5, 40 + 4 + 16 + 8)

    def test_state_that_there_is_not(self):
        for states in (4, 5, 7, 2 ** 63, 2 ** 64 - 1):
            self.broken(book_octets([FREE], [[[states]]]), 5, 32)
        self.judged(book_octets([FREE], [[[3]]]), [0])
        self.judged(book_octets([(64, 0, 0)], [[[2 ** 64 - 1]]]), [0])


class Rule6(OpenTest):
    def test_does_not_apply_though_it_must(self):
        characters = [FREE, (2, 1, 2)]
        for form, good in (([1, 1], True), ([1, 2], False), ([2, 1], False), ([2, 2], True), ([3, 1], True)):
            self.judged(book_octets(characters, [[form]]), [0] if good else [-5, 6, 44])

    def test_place_of_a_later_form(self):
        characters = [FREE, (2, 1, 2)]
        self.broken(book_octets(characters, [[[1, 1]], [[2, 2], [1, 2]]]), 6, 40 + 4 + 16 + 4 + 16)

    def test_told_when_its_sets_are_read(self):
        characters = [FREE, (2, 1, 2), FREE]
        self.broken(book_octets(characters, [[[1, 2, 0]]]), 5, 52 + 4 + 16)
        self.broken(book_octets(characters, [[[1, 2, 1], [0, 1, 1]]]), 6, 56)
        cut = book_octets(characters, [[[1, 2, 1]]])[16:-1]
        self.broken(with_book_head(cut, 3, 1), 1, 16 + len(cut))

    def test_two_that_hang_on_one(self):
        characters = [(3, 0, 0), (2, 1, 2), (2, 1, 4)]
        self.broken(book_octets(characters, [[[7, 2, 2]]]), 6, 56)
        self.judged(book_octets(characters, [[[7, 2, 1]]]), [0])

    def test_against_all_individuals(self):
        rows = ([(3, 0, 0), (2, 1, 3), (3, 2, 2)], [(2, 0, 0), (3, 1, 2), (2, 2, 4), (2, 2, 6)],
                [(2, 0, 0), (2, 0, 0), (3, 1, 1), (2, 3, 2)])
        for characters in rows:
            seen = {}
            for form in itertools.product(*[range(1, 2 ** states) for states, hangs, applies_in in characters]):
                good = form_has_one(characters, form)
                place = 16 + 12 * len(characters) + 4
                self.judged(book_octets(characters, [[form]]), [0] if good else [-5, 6, place])
                seen[good] = True
            self.assertEqual(len(seen), 2)

    def test_a_chain_of_256(self):
        characters = [FREE] + [(2, k, 2) for k in range(1, 256)]
        self.judged(book_octets(characters, [[[2] * 256]]), [0])
        self.judged(book_octets(characters, [[[3] * 255 + [2]]]), [0])
        self.broken(book_octets(characters, [[[1] + [3] * 254 + [2]]]), 6, 16 + 12 * 256 + 4)


class Rule7AndOrder(OpenTest):
    def test_bytes_left(self):
        octets = book_octets([FREE], ONE_KIND)
        for left in ([0], [1, 2, 3], [255] * 20):
            self.broken(with_book_head(octets[16:] + left, 1, 1), 7, len(octets))

    def test_more_kinds_than_told(self):
        self.broken(book_octets([FREE], ONE_KIND * 2, how_many_kinds=1), 7, 40)

    def test_the_first_of_two_faults(self):
        good = book_octets([FREE, (2, 1, 2)], [[[1, 1]]])
        faults = [(0, [71], [1, 0]), (4, [0], [1, 4]), (8, [0], [2, 8]), (12, [0], [2, 12]), (16, [1], [3, 16]),
                  (18, [1], [3, 18]), (20, [1], [3, 20]), (28, [65], [3, 28]), (30, [2], [3, 30]),
                  (32, [4], [3, 32]), (40, [0], [4, 40]), (44, [0], [5, 44]), (52, [0], [5, 52])]
        for (at, wrong, expected), (later, also_wrong, unseen) in itertools.combinations(faults, 2):
            octets = list(good)
            octets[at:at + len(wrong)] = wrong
            octets[later:later + len(also_wrong)] = also_wrong
            self.broken(octets, *expected)

    def test_bytes_left_behind_another_fault(self):
        octets = book_octets([FREE, (2, 1, 2)], [[[1, 2]]])
        self.broken(with_book_head(octets[16:] + [0], 2, 1), 6, 44)


class SizeAndRefusal(OpenTest):
    def test_more_bytes_than_a_book_may_have(self):
        self.judged([0] * 1048577, [-6])
        self.judged(book_octets([FREE], ONE_KIND) + [0] * 1048576, [-6])
        self.broken([0] * 1048576, 1, 0)

    def test_a_refused_book_leaves_the_one_that_was_open(self):
        desk = Desk()
        refused = open_book(book_octets([FREE], [[[0]]]))
        self.assertEqual(answer(desk, refused), [-5, 5, 32])
        self.assertIsNone(desk.book)
        self.assertEqual(answer(desk, open_book(book_octets([(7, 0, 0)], ONE_KIND))), [0])
        book = desk.book
        self.assertEqual(answer(desk, refused), [-5, 5, 32])
        self.assertEqual(answer(desk, open_book([0] * 1048577)), [-6])
        self.assertIs(desk.book, book)
        self.assertEqual((book.characters[0].states, book.forms_of), (7, ONE_KIND))
        self.assertEqual(answer(desk, open_book(book_octets([(9, 0, 0)], ONE_KIND))), [0])
        self.assertEqual(desk.book.characters[0].states, 9)

    def test_a_refused_book_leaves_the_collection(self):
        bad = open_book([])
        octets = collection_octets(2, [])
        self.assertEqual(answered(take(octets), bad, list_of(0, 0)), [[0], [-5, 1, 0], [0, 0]])


if __name__ == "__main__":
    unittest.main()
