"""[1], [9] and [15]: the least ring of a book, and what is refused."""

import unittest

from fullring.books import is_ring_of
from fullring.walks import ring_of
from fullring.words import all_words
from tests.helping import (
    RingCase, bad_books, bad_signs, bad_sizes, books_of, no_wholes, orders_of, rings_by_trying,
    words_round,
)


def full_ring(signs, size):
    """The least ring of all words, made of falling pieces ([14])."""
    row = []
    for many in range(1, size + 1):
        if size % many == 0:
            for word in all_words(signs, many):
                if all([word < word[at:] + word[:at] for at in range(1, many)]):
                    row.append(word)
    return [sign for piece in sorted(row) for sign in piece]


def turns_of(word):
    """A word and all its turns, each once."""
    found = []
    for at in range(len(word)):
        turn = word[at:] + word[:at]
        if turn not in found:
            found.append(turn)
    return found


class Interface(unittest.TestCase):
    def test_the_function_is_defined_in_its_file(self):
        self.assertEqual("fullring.walks", ring_of.__module__)


class RingOf(RingCase):
    def test_a_book_of_one_word(self):
        self.told([0], ring_of, 1, 1, [[0]])
        self.told([8], ring_of, 9, 1, [[8]])
        self.told([1], ring_of, 2, 2, [[1, 1]])
        self.told([1], ring_of, 2, 8, [[1] * 8])
        self.told([0], ring_of, 1, 8, [[0] * 8])

    def test_words_of_one_sign(self):
        self.told([0, 2, 3], ring_of, 4, 1, [[3], [0], [2]])
        self.told([0, 1, 2, 3, 4, 5, 6, 7, 8], ring_of, 9, 1, all_words(9, 1)[::-1])

    def test_all_turns_of_one_word(self):
        self.told([0, 1], ring_of, 2, 2, [[1, 0], [0, 1]])
        self.told([0, 2, 1], ring_of, 3, 3, [[2, 1, 0], [1, 0, 2], [0, 2, 1]])
        self.told([0, 1], ring_of, 2, 6, [[1, 0] * 3, [0, 1] * 3])
        self.told([0, 0, 1, 0, 1, 1, 0, 1], ring_of, 2, 8, turns_of([1, 0, 1, 1, 0, 1, 0, 0]))
        for signs, size in ((2, 4), (2, 6), (3, 4), (4, 3)):
            for word in all_words(signs, size):
                turns = turns_of(word)
                least = min(turns)[:len(turns)]
                self.assertEqual(least, ring_of(signs, size, turns))

    def test_words_with_their_turns_that_hang_together(self):
        for order in orders_of(turns_of([0, 0, 1]) + turns_of([0, 1, 1])):
            self.told([0, 0, 1, 0, 1, 1], ring_of, 2, 3, order)
        for order in orders_of(turns_of([1, 2, 0]) + turns_of([2, 2, 1]) + turns_of([2, 2, 2])):
            self.told([0, 1, 2, 2, 2, 1, 2], ring_of, 4, 3, order)

    def test_words_with_their_turns_that_do_not_hang_together(self):
        for order in orders_of(turns_of([1, 1, 2]) + turns_of([2, 1, 3]) + turns_of([3, 3, 3])):
            self.refused("NoRing", ring_of, 4, 3, order)

    def test_the_least_word_to_go_on_may_have_to_wait(self):
        # From 1 the way back to 0 is the least one, but would leave [1, 2] and [2, 1] out.
        self.told([0, 1, 2, 1], ring_of, 3, 2, [[0, 1], [1, 0], [1, 2], [2, 1]])
        self.told([0, 1, 2, 3, 2, 1], ring_of, 4, 2, [[0, 1], [1, 0], [1, 2], [2, 1], [2, 3], [3, 2]])

    def test_the_least_of_all_rings(self):
        for signs, size in ((1, 1), (1, 4), (2, 1), (5, 1), (2, 2), (2, 3), (3, 2)):
            found = rings_by_trying(signs, size, signs ** size)
            for words in found:
                book = [list(word) for word in words]
                for order in orders_of(book):
                    self.assertEqual(min(found[words]), ring_of(signs, size, order))

    def test_the_least_of_all_rings_of_longer_words(self):
        for size, most in ((4, 16), (5, 12), (8, 9)):
            found = rings_by_trying(2, size, most)
            self.assertGreater(len(found), 80)
            for words in found:
                book = [list(word) for word in words]
                self.assertEqual(min(found[words]), ring_of(2, size, book[::-1]))

    def test_begins_with_the_least_word(self):
        for words in rings_by_trying(3, 2, 9):
            book = [list(word) for word in words]
            ring = ring_of(3, 2, book)
            self.assertEqual(min(book), words_round(ring, 2)[0])

    def test_all_words(self):
        self.told([0], ring_of, 1, 3, all_words(1, 3))
        self.told([0, 0, 1, 1], ring_of, 2, 2, all_words(2, 2))
        self.told([0, 0, 0, 1, 0, 1, 1, 1], ring_of, 2, 3, all_words(2, 3))
        self.told([0, 0, 1, 0, 2, 1, 1, 2, 2], ring_of, 3, 2, all_words(3, 2))
        for signs in range(1, 10):
            for size in range(1, 9):
                if signs ** size <= 256:
                    book = all_words(signs, size)
                    self.assertEqual(full_ring(signs, size), ring_of(signs, size, book[::-1]))

    def test_256_words(self):
        for signs, size in ((2, 8), (4, 4)):
            for order in orders_of(all_words(signs, size)):
                self.told(full_ring(signs, size), ring_of, signs, size, order)

    def test_all_words_but_one(self):
        full = full_ring(2, 8)
        self.told(full[1:], ring_of, 2, 8, all_words(2, 8)[1:])
        self.told(full[:-1], ring_of, 2, 8, all_words(2, 8)[:-1][::-1])


class NoRing(RingCase):
    def test_uneven(self):
        self.refused("NoRing", ring_of, 2, 2, [[0, 1]])
        self.refused("NoRing", ring_of, 3, 2, [[0, 0], [2, 1]])
        self.refused("NoRing", ring_of, 2, 8, all_words(2, 8)[:2] + all_words(2, 8)[3:])

    def test_apart(self):
        self.refused("NoRing", ring_of, 2, 2, [[1, 1], [0, 0]])
        self.refused("NoRing", ring_of, 5, 2, [[4, 4], [3, 1], [1, 3], [2, 2]])
        self.refused("NoRing", ring_of, 2, 8, [[1] * 8, [0] * 8])

    def test_uneven_and_apart(self):
        self.refused("NoRing", ring_of, 4, 2, [[0, 0], [1, 1], [2, 3]])

    def test_each_book_that_has_none(self):
        for signs, size in ((2, 2), (2, 3), (3, 2)):
            found = rings_by_trying(signs, size, signs ** size)
            for book in books_of(all_words(signs, size)):
                if tuple([tuple(word) for word in book]) not in found:
                    self.refused("NoRing", ring_of, signs, size, book)


class Refusals(RingCase):
    def test_signs_and_sizes_that_are_none(self):
        for bad in bad_signs():
            self.refused("BadSize", ring_of, bad, 1, [[0]])
            self.refused("BadSize", ring_of, bad, bad, [[0]])
        for bad in bad_sizes():
            self.refused("BadSize", ring_of, 1, bad, [[0]])

    def test_signs_and_a_size_that_do_not_go_together(self):
        for signs, size in ((3, 6), (5, 4), (7, 3), (9, 3), (4, 5), (9, 8)):
            self.refused("BadSize", ring_of, signs, size, [[0] * size])

    def test_books_that_are_none(self):
        for bad in bad_books(3, 1, all_words(3, 1)):
            self.refused("BadBook", ring_of, 3, 1, bad)
        for bad in bad_books(2, 2, [[0, 1], [1, 1], [1, 0]]):
            self.refused("BadBook", ring_of, 2, 2, bad)
        for bad in bad_books(2, 4, all_words(2, 4)):
            self.refused("BadBook", ring_of, 2, 4, bad)

    def test_size_ahead_of_book_ahead_of_no_ring(self):
        for bad in no_wholes():
            self.refused("BadSize", ring_of, bad, 1, bad)
            self.refused("BadSize", ring_of, 1, bad, bad)
            self.refused("BadBook", ring_of, 1, 1, bad)
        self.refused("BadSize", ring_of, 0, 2, [[0, 1]])
        self.refused("BadSize", ring_of, 3, 6, [[0, 1]])
        self.refused("BadBook", ring_of, 2, 2, [[0, 1], [0, 1]])
        self.refused("BadBook", ring_of, 2, 2, [[0, 1], [0, 2]])


if __name__ == "__main__":
    unittest.main()
