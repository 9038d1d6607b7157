"""[1], [9], [14] and [15]: falling pieces, the least ring that they make, and what is refused."""

import itertools
import unittest

from fullring.books import is_ring_of
from fullring.pieces import least_full, pieces
from fullring.walks import ring_of
from fullring.words import all_words
from tests.helping import RingCase, bad_signs, bad_sizes, rings_by_trying

# All signs and sizes that go together.
TOGETHER = [
    (signs, size)
    for signs in range(1, 10)
    for size in range(1, 9)
    if signs ** size <= 256
]
PRIMES = (2, 3, 5, 7)


def pieces_by_trying(signs, size):
    """The falling pieces, rising, found in another way."""
    found = []
    for many in range(1, size + 1):
        for word in itertools.product(range(signs), repeat=many):
            turns = [word[at:] + word[:at] for at in range(many)]
            # The word alone is the least one, and no other turn is like it.
            if size % many == 0 and turns.count(word) == 1 and word == min(turns):
                found.append(list(word))
    return sorted(found)


class Interface(unittest.TestCase):
    def test_each_function_is_defined_in_its_file(self):
        for call in (pieces, least_full):
            self.assertEqual("fullring.pieces", call.__module__)


class Pieces(RingCase):
    def test_size_1(self):
        self.told([[0]], pieces, 1, 1)
        self.told([[0], [1]], pieces, 2, 1)
        for signs in range(1, 10):
            self.told([[sign] for sign in range(signs)], pieces, signs, 1)

    def test_one_sign(self):
        for size in range(1, 9):
            self.told([[0]], pieces, 1, size)

    def test_sizes_that_are_prime(self):
        self.told([[0], [0, 1], [1]], pieces, 2, 2)
        self.told([[0], [0, 1], [0, 2], [1], [1, 2], [2]], pieces, 3, 2)
        self.told([[0], [0, 0, 1], [0, 1, 1], [1]], pieces, 2, 3)
        self.told(
            [[0], [0, 0, 1], [0, 0, 2], [0, 1, 1], [0, 1, 2], [0, 2, 1], [0, 2, 2], [1],
             [1, 1, 2], [1, 2, 2], [2]],
            pieces, 3, 3,
        )
        self.told(
            [[0], [0, 0, 0, 0, 1], [0, 0, 0, 1, 1], [0, 0, 1, 0, 1], [0, 0, 1, 1, 1],
             [0, 1, 0, 1, 1], [0, 1, 1, 1, 1], [1]],
            pieces, 2, 5,
        )

    def test_sizes_that_are_not_prime(self):
        self.told([[0], [0, 0, 0, 1], [0, 0, 1, 1], [0, 1], [0, 1, 1, 1], [1]], pieces, 2, 4)
        self.told(
            [[0], [0, 0, 0, 0, 0, 1], [0, 0, 0, 0, 1, 1], [0, 0, 0, 1, 0, 1],
             [0, 0, 0, 1, 1, 1], [0, 0, 1], [0, 0, 1, 0, 1, 1], [0, 0, 1, 1, 0, 1],
             [0, 0, 1, 1, 1, 1], [0, 1], [0, 1, 0, 1, 1, 1], [0, 1, 1],
             [0, 1, 1, 1, 1, 1], [1]],
            pieces, 2, 6,
        )

    def test_sizes_that_do_not_divide_are_left_out(self):
        for signs, size in TOGETHER:
            for piece in pieces(signs, size):
                self.assertEqual(0, size % len(piece))
        self.assertNotIn([0, 1], pieces(2, 3))
        self.assertNotIn([0, 0, 1], pieces(2, 4))
        self.assertNotIn([0, 1], pieces(2, 7))

    def test_words_with_a_turn_that_is_alike_are_left_out(self):
        for word in ([0, 0], [0, 1, 0, 1], [0, 0, 0, 0], [1, 1, 1, 1]):
            self.assertNotIn(word, pieces(2, 4))
            self.assertNotIn(word, pieces(2, 8))
        self.assertNotIn([0, 0, 1, 0, 0, 1], pieces(2, 6))

    def test_all_signs_and_sizes(self):
        for signs, size in TOGETHER:
            self.told(pieces_by_trying(signs, size), pieces, signs, size)

    def test_how_many(self):
        for signs, size in TOGETHER:
            found = pieces(signs, size)
            self.assertEqual(signs ** size, sum([len(piece) for piece in found]))
            if size in PRIMES:
                self.assertEqual(signs + (signs ** size - signs) // size, len(found))


class LeastFull(RingCase):
    def test_plain(self):
        self.told([0], least_full, 1, 1)
        self.told([0, 1], least_full, 2, 1)
        self.told([0, 0, 1, 1], least_full, 2, 2)
        self.told([0, 0, 0, 1, 0, 1, 1, 1], least_full, 2, 3)
        self.told([0, 0, 1, 0, 2, 1, 1, 2, 2], least_full, 3, 2)
        self.told([0, 0, 0, 0, 1, 0, 0, 1, 1, 0, 1, 0, 1, 1, 1, 1], least_full, 2, 4)

    def test_one_sign(self):
        for size in range(1, 9):
            self.told([0], least_full, 1, size)

    def test_size_1(self):
        for signs in range(1, 10):
            self.told(list(range(signs)), least_full, signs, 1)

    def test_the_pieces_one_behind_the_other(self):
        for signs, size in TOGETHER:
            row = []
            for piece in pieces_by_trying(signs, size):
                row += piece
            self.told(row, least_full, signs, size)

    def test_the_least_ring_of_all_words(self):
        for signs, size in TOGETHER:
            book = all_words(signs, size)
            ring = least_full(signs, size)
            self.assertTrue(is_ring_of(signs, size, book, ring))
            self.alike(ring_of(signs, size, book), ring)

    def test_the_least_of_all_rings(self):
        for signs, size in ((1, 1), (1, 8), (2, 1), (2, 2), (2, 3), (2, 4), (3, 1), (3, 2), (5, 1)):
            book = tuple([tuple(word) for word in all_words(signs, size)])
            found = rings_by_trying(signs, size, len(book))
            self.alike(min(found[book]), least_full(signs, size))


class Refusals(RingCase):
    def test_signs_and_sizes_that_are_none(self):
        for call in (pieces, least_full):
            for bad in bad_signs():
                self.refused("BadSize", call, bad, 1)
                self.refused("BadSize", call, bad, bad)
            for bad in bad_sizes():
                self.refused("BadSize", call, 1, bad)
                self.refused("BadSize", call, 2, bad)

    def test_signs_and_a_size_that_do_not_go_together(self):
        for call in (pieces, least_full):
            for signs in range(1, 10):
                for size in range(1, 9):
                    if (signs, size) not in TOGETHER:
                        self.refused("BadSize", call, signs, size)


class Own(RingCase):
    def test_told_pieces_are_the_askers_own(self):
        told = pieces(2, 2)
        told[0].append(7)
        told.append([8])
        self.alike([[0, 7], [0, 1], [1], [8]], told)
        self.alike([[0], [0, 1], [1]], pieces(2, 2))
        self.alike([0, 0, 1, 1], least_full(2, 2))

    def test_a_told_ring_is_the_askers_own(self):
        told = least_full(1, 1)
        told.append(1)
        self.alike([0], least_full(1, 1))
        self.alike([0, 1], told)
        self.alike([[0]], pieces(1, 1))


if __name__ == "__main__":
    unittest.main()
