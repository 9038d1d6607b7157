"""[1], [10] and [15]: how many rings a book has, and what is refused."""

import itertools
import math
import unittest

from fullring.counts import many_rings
from fullring.words import all_words
from tests.helping import (
    RingCase, bad_books, bad_signs, bad_sizes, books_of, no_wholes, orders_of, rings_by_trying,
    words_round,
)


class Interface(unittest.TestCase):
    def test_the_function_is_defined_in_its_file(self):
        self.assertEqual("fullring.counts", many_rings.__module__)


class ManyRings(RingCase):
    def test_a_book_that_has_none(self):
        self.told(0, many_rings, 2, 2, [[0, 1]])
        self.told(0, many_rings, 2, 2, [[0, 0], [1, 1]])
        self.told(0, many_rings, 4, 2, [[0, 0], [1, 1], [2, 3]])
        self.told(0, many_rings, 2, 3, [[1, 0, 1], [0, 1, 0], [0, 0, 0]])
        self.told(0, many_rings, 2, 8, all_words(2, 8)[:2] + all_words(2, 8)[3:])

    def test_just_one(self):
        self.told(1, many_rings, 1, 1, [[0]])
        self.told(1, many_rings, 9, 1, [[8]])
        self.told(1, many_rings, 2, 8, [[1] * 8])
        self.told(1, many_rings, 2, 2, [[1, 0], [0, 1]])
        self.told(1, many_rings, 2, 2, all_words(2, 2))
        self.told(1, many_rings, 3, 2, [[0, 1], [1, 0], [1, 2], [2, 1]])
        self.told(1, many_rings, 2, 8, words_round([0, 0, 1, 0, 1, 1, 0, 1], 8))

    def test_several(self):
        self.told(2, many_rings, 2, 3, all_words(2, 3))
        self.told(2, many_rings, 4, 2, [[0, 1], [1, 0], [1, 2], [2, 1], [1, 3], [3, 1]])
        self.told(3, many_rings, 3, 2, [[0, 1], [1, 0], [1, 2], [2, 1], [0, 2], [2, 0]])
        self.told(24, many_rings, 3, 2, all_words(3, 2))

    def test_words_of_one_sign(self):
        for signs in range(1, 10):
            for many in range(1, signs + 1):
                book = all_words(signs, 1)[signs - many:]
                self.told(math.factorial(many - 1), many_rings, signs, 1, book)

    def test_words_that_begin_and_end_alike_add_as_many_orders_as_their_joint_is_left(self):
        round_words = [[0, 1], [1, 0], [1, 2], [2, 1]]
        self.told(1, many_rings, 3, 2, round_words)
        self.told(1, many_rings, 3, 2, round_words + [[0, 0]])
        self.told(2, many_rings, 3, 2, round_words + [[1, 1]])
        self.told(2, many_rings, 3, 2, round_words + [[1, 1], [2, 2], [0, 0]])

    def test_the_book_in_any_order(self):
        for order in orders_of(all_words(3, 2)):
            self.told(24, many_rings, 3, 2, order)
        for order in orders_of([[0, 0], [0, 1], [2, 0], [1, 0], [0, 2], [2, 2]]):
            self.told(2, many_rings, 3, 2, order)

    def test_all_rings_of_small_books(self):
        for signs, size in ((1, 1), (1, 4), (2, 1), (3, 1), (6, 1), (2, 2), (2, 3), (3, 2)):
            found = rings_by_trying(signs, size, signs ** size)
            for book in books_of(all_words(signs, size)):
                rings = found.get(tuple([tuple(word) for word in book]), [])
                # Each ring is found once at each of its turns.
                many = many_rings(signs, size, book[::-1])
                self.assertEqual(len(rings), many * len(book))
                self.assertIs(int, type(many))

    def test_all_rings_of_books_of_longer_words(self):
        for signs, size, most in ((2, 4, 16), (2, 5, 12), (4, 2, 8), (2, 8, 9)):
            found = rings_by_trying(signs, size, most)
            for words in found:
                book = [list(word) for word in words]
                self.assertEqual(len(found[words]), many_rings(signs, size, book) * len(book))

    def test_all_words(self):
        for signs, size in itertools.product(range(1, 10), range(1, 9)):
            if signs ** size <= 256:
                expected = math.factorial(signs) ** (signs ** (size - 1)) // signs ** size
                self.assertEqual(expected, many_rings(signs, size, all_words(signs, size)))

    def test_all_words_of_known_numbers(self):
        self.told(16, many_rings, 2, 4, all_words(2, 4))
        self.told(2048, many_rings, 2, 5, all_words(2, 5))
        self.told(67108864, many_rings, 2, 6, all_words(2, 6))
        self.told(373248, many_rings, 3, 3, all_words(3, 3))
        self.told(20736, many_rings, 4, 2, all_words(4, 2))

    def test_256_words(self):
        self.told(2 ** 120, many_rings, 2, 8, all_words(2, 8)[::-1])
        self.told(24 ** 64 // 256, many_rings, 4, 4, all_words(4, 4))

    def test_all_words_but_those_of_one_sign_alone(self):
        # A word that begins and ends alike, at a joint that is left twice, has one place.
        self.told(2 ** 120, many_rings, 2, 8, all_words(2, 8)[1:])
        self.told(2 ** 120, many_rings, 2, 8, all_words(2, 8)[1:-1])

    def test_steps_between_all_of_several_joints(self):
        # As many trees as there are on so many joints, with an order of the rest at each.
        for signs in range(2, 10):
            book = [word for word in all_words(signs, 2) if word[0] != word[1]]
            expected = signs ** (signs - 2) * math.factorial(signs - 2) ** signs
            self.told(expected, many_rings, signs, 2, book)


class Refusals(RingCase):
    def test_signs_and_sizes_that_are_none(self):
        for bad in bad_signs():
            self.refused("BadSize", many_rings, bad, 1, [[0]])
            self.refused("BadSize", many_rings, bad, bad, [[0]])
        for bad in bad_sizes():
            self.refused("BadSize", many_rings, 1, bad, [[0]])

    def test_signs_and_a_size_that_do_not_go_together(self):
        for signs, size in ((3, 6), (5, 4), (7, 3), (9, 3), (4, 5), (9, 8)):
            self.refused("BadSize", many_rings, signs, size, [[0] * size])

    def test_books_that_are_none(self):
        for bad in bad_books(3, 1, all_words(3, 1)):
            self.refused("BadBook", many_rings, 3, 1, bad)
        for bad in bad_books(2, 2, [[0, 1], [1, 1], [1, 0]]):
            self.refused("BadBook", many_rings, 2, 2, bad)
        for bad in bad_books(2, 4, all_words(2, 4)):
            self.refused("BadBook", many_rings, 2, 4, bad)

    def test_size_ahead_of_book(self):
        for bad in no_wholes():
            self.refused("BadSize", many_rings, bad, 1, bad)
            self.refused("BadSize", many_rings, 1, bad, bad)
            self.refused("BadBook", many_rings, 1, 1, bad)
        self.refused("BadSize", many_rings, 3, 6, [[0, 1]])
        self.refused("BadBook", many_rings, 2, 2, [[0, 1], [0, 1]])


if __name__ == "__main__":
    unittest.main()
