"""[1], [4], [7], [8] and [15]: joints, what a book lacks, its rings, and what is refused."""

import unittest

from fullring.books import is_ring_of, joints, lack
from fullring.walks import ring_of
from fullring.errors import NoRing
from fullring.words import all_words
from tests.helping import (
    RingCase, bad_books, bad_rings, bad_signs, bad_sizes, books_of, far_numbers, no_wholes,
    orders_of, rings_by_trying, words_round,
)

# Signs and size, and a book of some words for them.
BOOKS = [
    (3, 1, [[2], [0], [1]]),
    (2, 2, [[1, 0], [0, 1], [0, 0]]),
    (2, 3, [[1, 0, 0], [0, 0, 1], [0, 0, 0], [0, 1, 0], [1, 1, 1]]),
    (9, 2, [[8, 0], [0, 8], [8, 8], [0, 1]]),
    (2, 8, [[0, 1] * 4, [1, 0] * 4, [0] * 8]),
]


def joints_by_looking(book):
    """All joints of a book's words, rising, found in another way."""
    found = []
    for word in book:
        for joint in (word[:len(word) - 1], word[1:]):
            if joint not in found:
                found.append(joint)
    return sorted(found)


def lack_by_looking(book):
    """What a book lacks, found in another way."""
    known = joints_by_looking(book)
    for joint in known:
        begins = len([word for word in book if word[:-1] == joint])
        ends = len([word for word in book if word[1:] == joint])
        if begins != ends:
            return "uneven", joint
    reached = [sorted(book)[0][:-1]]
    for _ in book:
        for word in book:
            if word[:-1] in reached and word[1:] not in reached:
                reached.append(word[1:])
    return None if len(reached) == len(known) else ("apart", sorted(reached))


class Interface(unittest.TestCase):
    def test_each_function_is_defined_in_its_file(self):
        for call in (joints, lack, is_ring_of):
            self.assertEqual("fullring.books", call.__module__)


class Joints(RingCase):
    def test_words_of_one_sign_have_the_empty_joint(self):
        self.told([[]], joints, 1, 1, [[0]])
        self.told([[]], joints, 3, 1, [[2], [0]])
        self.told([[]], joints, 9, 1, all_words(9, 1))

    def test_words_of_two_signs(self):
        self.told([[0], [1]], joints, 2, 2, [[1, 0]])
        self.told([[0], [1], [2]], joints, 3, 2, [[2, 0], [0, 1]])
        self.told([[0], [2], [3]], joints, 4, 2, [[3, 2], [0, 3], [2, 0]])
        self.told([[0], [8]], joints, 9, 2, [[8, 0]])

    def test_longer_words(self):
        self.told([[0, 1], [1, 0]], joints, 2, 3, [[0, 1, 0]])
        self.told([[0, 1], [1, 2], [4, 0]], joints, 5, 3, [[4, 0, 1], [0, 1, 2]])
        self.told(
            [[0, 1, 1, 0, 0, 0, 1], [1, 1, 0, 0, 0, 1, 0]], joints, 2, 8, [[0, 1, 1, 0, 0, 0, 1, 0]]
        )

    def test_words_whose_joints_are_alike(self):
        self.told([[1]], joints, 2, 2, [[1, 1]])
        self.told([[0, 0]], joints, 2, 3, [[0, 0, 0]])
        self.told([[0] * 7], joints, 1, 8, [[0] * 8])
        self.told([[0, 0], [1, 1]], joints, 2, 3, [[1, 1, 1], [0, 0, 0]])

    def test_each_joint_once_and_rising(self):
        self.told([[0], [1], [2]], joints, 3, 2, [[2, 1], [1, 0], [0, 1], [1, 2], [2, 2]])
        self.told(all_words(2, 2), joints, 2, 3, all_words(2, 3)[::-1])
        self.told(all_words(2, 7), joints, 2, 8, all_words(2, 8)[::-1])
        self.told(all_words(4, 3), joints, 4, 4, all_words(4, 4))
        self.told(all_words(9, 1), joints, 9, 2, all_words(9, 2))

    def test_books_of_some_words(self):
        for book in books_of(all_words(2, 3)):
            for order in orders_of(book):
                self.assertEqual(joints_by_looking(book), joints(2, 3, order))


class Lack(RingCase):
    def test_a_book_with_a_ring_lacks_nothing(self):
        self.told(None, lack, 1, 1, [[0]])
        self.told(None, lack, 3, 1, [[2], [0]])
        self.told(None, lack, 2, 2, [[1, 1]])
        self.told(None, lack, 2, 2, [[1, 0], [0, 1]])
        self.told(None, lack, 2, 3, [[0, 1, 0], [1, 0, 1]])
        self.told(None, lack, 2, 3, all_words(2, 3))
        self.told(None, lack, 4, 4, all_words(4, 4)[::-1])
        self.told(None, lack, 2, 8, [[1] * 8])

    def test_uneven_at_one_joint_and_another(self):
        self.told(("uneven", [0]), lack, 2, 2, [[0, 1]])
        self.told(("uneven", [1]), lack, 3, 2, [[0, 0], [1, 2]])
        self.told(("uneven", [1]), lack, 3, 2, [[0, 0], [2, 1]])
        self.told(("uneven", [0, 1]), lack, 2, 3, [[0, 1, 1]])

    def test_uneven_at_several_joints_tells_the_least(self):
        self.told(("uneven", [1]), lack, 5, 2, [[4, 3], [0, 0], [2, 1]])
        self.told(("uneven", [0]), lack, 3, 2, [[2, 1], [1, 0]])
        self.told(("uneven", [0, 0]), lack, 2, 3, [[1, 1, 0], [0, 0, 1], [1, 0, 1]])
        self.told(("uneven", [0]), lack, 3, 2, [[1, 2], [2, 0], [1, 0]])

    def test_uneven_at_a_joint_of_the_many(self):
        self.told(("uneven", [0] * 6 + [1]), lack, 2, 8, all_words(2, 8)[:2] + all_words(2, 8)[3:])
        self.told(("uneven", [3]), lack, 9, 2, [word for word in all_words(9, 2) if word != [7, 3]])

    def test_even_but_apart(self):
        self.told(("apart", [[0]]), lack, 2, 2, [[1, 1], [0, 0]])
        self.told(("apart", [[1], [3]]), lack, 5, 2, [[4, 4], [3, 1], [1, 3], [2, 2]])
        self.told(("apart", [[0, 0]]), lack, 2, 3, [[1, 0, 1], [0, 1, 0], [0, 0, 0]])
        self.told(
            ("apart", [[0, 2], [1, 0], [2, 1]]),
            lack, 3, 3, [[2, 2, 2], [1, 1, 1], [2, 1, 0], [1, 0, 2], [0, 2, 1]],
        )
        self.told(("apart", [[0] * 7]), lack, 2, 8, [[1] * 8, [0] * 8])

    def test_apart_tells_the_joints_of_the_least_word_wherever_it_stands(self):
        for order in orders_of([[2, 2], [1, 3], [3, 1], [4, 4], [3, 3]]):
            self.told(("apart", [[1], [3]]), lack, 5, 2, order)

    def test_apart_tells_joints_that_are_less_than_the_first(self):
        self.told(
            ("apart", [[0, 1], [1, 2], [2, 0]]),
            lack, 4, 3, [[3, 3, 3], [2, 0, 1], [0, 1, 2], [1, 2, 0]],
        )

    def test_uneven_is_told_ahead_of_apart(self):
        self.told(("uneven", [2]), lack, 4, 2, [[0, 0], [1, 1], [2, 3]])
        self.told(("uneven", [1]), lack, 3, 2, [[2, 2], [0, 0], [0, 1], [1, 0], [2, 1]])

    def test_books_of_some_words(self):
        for signs, size in ((3, 1), (2, 2), (2, 3), (3, 2)):
            found = rings_by_trying(signs, size, signs ** size)
            for book in books_of(all_words(signs, size)):
                expected = lack_by_looking(book)
                self.assertEqual(tuple([tuple(word) for word in book]) in found, expected is None)
                for order in orders_of(book):
                    self.alike(expected, lack(signs, size, order))

    def test_none_just_where_a_ring_is_told(self):
        for book in books_of(all_words(2, 3)):
            if lack(2, 3, book) is None:
                self.assertEqual(True, is_ring_of(2, 3, book, ring_of(2, 3, book)))
            else:
                with self.assertRaises(NoRing):
                    ring_of(2, 3, book)


class IsRingOf(RingCase):
    def test_a_ring_of_the_book_at_each_turn(self):
        book = [[1, 0, 2], [0, 2, 2], [2, 2, 1], [2, 1, 0]]
        for ring in words_round([1, 0, 2, 2], 4):
            self.told(True, is_ring_of, 3, 3, book, ring)

    def test_books_in_any_order(self):
        for order in orders_of(all_words(2, 3)):
            self.told(True, is_ring_of, 2, 3, order, [0, 0, 0, 1, 0, 1, 1, 1])
            self.told(True, is_ring_of, 2, 3, order, [1, 0, 1, 0, 0, 0, 1, 1])
            self.told(False, is_ring_of, 2, 3, order, [0, 0, 0, 1, 0, 1, 0, 1])

    def test_one_sign_changed(self):
        ring = [0, 0, 1, 0, 2, 1, 1, 2, 2]
        book = all_words(3, 2)
        self.told(True, is_ring_of, 3, 2, book, ring)
        for place in range(9):
            for sign in range(3):
                if sign != ring[place]:
                    changed = ring[:place] + [sign] + ring[place + 1:]
                    self.told(False, is_ring_of, 3, 2, book, changed)

    def test_too_few_and_too_many_signs(self):
        ring = [0, 0, 1, 1]
        book = all_words(2, 2)
        for place in range(4):
            self.told(False, is_ring_of, 2, 2, book, ring[:place] + ring[place + 1:])
            self.told(False, is_ring_of, 2, 2, book, ring[:place] + [0] + ring[place:])
            self.told(False, is_ring_of, 2, 2, book, ring[:place] + [1] + ring[place:])

    def test_more_places_than_words_though_each_stands(self):
        self.told(False, is_ring_of, 2, 2, [[0, 0]], [0, 0])
        self.told(False, is_ring_of, 2, 2, [[0, 1], [1, 0]], [0, 1, 0, 1])
        self.told(False, is_ring_of, 2, 1, [[0], [1]], [0, 1, 1])
        self.told(False, is_ring_of, 2, 1, [[0]], [0, 1])
        self.told(False, is_ring_of, 1, 8, [[0] * 8], [0] * 256)

    def test_a_word_that_stands_twice(self):
        self.told(False, is_ring_of, 2, 2, [[0, 0], [0, 1], [1, 0]], [0, 1, 1])
        self.told(False, is_ring_of, 2, 2, [[0, 0], [0, 1], [1, 0], [1, 1]], [0, 1, 0, 1])
        self.told(False, is_ring_of, 2, 1, [[0], [1]], [0, 0])

    def test_words_that_stand_but_are_none_of_the_book(self):
        self.told(False, is_ring_of, 2, 2, [[0, 0], [0, 1], [1, 0]], [0, 0, 1, 1])
        self.told(False, is_ring_of, 2, 2, [[0, 0]], [1])

    def test_a_book_of_one_word(self):
        self.told(True, is_ring_of, 1, 1, [[0]], [0])
        self.told(True, is_ring_of, 2, 8, [[1] * 8], [1])
        self.told(False, is_ring_of, 2, 8, [[1] * 8], [0])
        self.told(False, is_ring_of, 2, 8, [[1] * 8], [1] * 8)
        self.told(False, is_ring_of, 2, 2, [[0, 1]], [0])
        self.told(False, is_ring_of, 2, 2, [[0, 1]], [0, 1])

    def test_words_of_one_sign(self):
        for ring in ([3, 0, 2], [0, 2, 3], [2, 3, 0], [0, 3, 2]):
            self.told(True, is_ring_of, 4, 1, [[2], [3], [0]], ring)
        self.told(False, is_ring_of, 4, 1, [[2], [3], [0]], [3, 0, 1])

    def test_a_ring_shorter_than_its_words(self):
        book = words_round([0, 0, 1], 8)
        for ring in words_round([0, 0, 1], 3):
            self.told(True, is_ring_of, 2, 8, book, ring)
        self.told(False, is_ring_of, 2, 8, book, [0, 1, 1])

    def test_a_book_of_256_words(self):
        ring = ring_of(4, 4, all_words(4, 4))
        self.told(True, is_ring_of, 4, 4, all_words(4, 4), ring)
        self.told(False, is_ring_of, 4, 4, all_words(4, 4), ring[:255] + [0])
        self.told(False, is_ring_of, 4, 4, all_words(4, 4)[:255], ring)
        self.told(False, is_ring_of, 4, 4, all_words(4, 4), ring[:255])

    def test_all_rings_of_all_books(self):
        found = rings_by_trying(2, 2, 4)
        for book in books_of(all_words(2, 2)):
            rings = found.get(tuple([tuple(word) for word in book]), [])
            for other in found:
                for ring in found[other]:
                    self.assertIs(ring in rings, is_ring_of(2, 2, book, ring))


class Refusals(RingCase):
    def test_signs_and_sizes_that_are_none(self):
        for bad in bad_signs():
            for call in (joints, lack):
                self.refused("BadSize", call, bad, 1, [[0]])
                self.refused("BadSize", call, bad, bad, [[0]])
            self.refused("BadSize", is_ring_of, bad, 1, [[0]], [0])
        for bad in bad_sizes():
            for call in (joints, lack):
                self.refused("BadSize", call, 1, bad, [[0]])
            self.refused("BadSize", is_ring_of, 1, bad, [[0]], [0])

    def test_signs_and_a_size_that_do_not_go_together(self):
        for signs, size in ((3, 6), (5, 4), (7, 3), (9, 3), (4, 5), (9, 8)):
            book = [[0] * size]
            self.refused("BadSize", joints, signs, size, book)
            self.refused("BadSize", lack, signs, size, book)
            self.refused("BadSize", is_ring_of, signs, size, book, [0])

    def test_books_that_are_none(self):
        for signs, size, book in BOOKS:
            for bad in bad_books(signs, size, book):
                self.refused("BadBook", joints, signs, size, bad)
                self.refused("BadBook", lack, signs, size, bad)
                self.refused("BadBook", is_ring_of, signs, size, bad, [0])

    def test_the_books_are_refused_for_their_faults_alone(self):
        for signs, size, book in BOOKS:
            self.assertEqual(joints_by_looking(book), joints(signs, size, book))
            self.alike(lack_by_looking(book), lack(signs, size, book))

    def test_rings_that_are_none(self):
        for bad in bad_rings():
            self.refused("BadRing", is_ring_of, 9, 1, [[0], [1]], bad)
            self.refused("BadRing", is_ring_of, 2, 2, [[0, 0], [0, 1], [1, 0]], bad)

    def test_rings_with_a_sign_that_is_none_of_so_many(self):
        for signs in range(1, 9):
            self.refused("BadRing", is_ring_of, signs, 1, [[0]], [signs])
            self.refused("BadRing", is_ring_of, signs, 1, [[0]], [0, 8])
            self.refused("BadRing", is_ring_of, signs, 2, [[0, 0]], [0] * 255 + [signs])
            self.told(False, is_ring_of, signs, 2, [[0, 0]], [0] * 255 + [signs - 1])

    def test_rings_up_to_256_signs_are_let_by(self):
        self.told(False, is_ring_of, 9, 2, [[8, 8]], [8] * 256)
        self.refused("BadRing", is_ring_of, 9, 2, [[8, 8]], [8] * 257)

    def test_size_ahead_of_book_ahead_of_ring(self):
        for bad in (None, True, [], [[]], "", [[9]], [[0], [0]], 10 ** 5000):
            self.refused("BadSize", joints, 0, 1, bad)
            self.refused("BadSize", lack, 2, 9, bad)
            self.refused("BadSize", is_ring_of, 3, 6, bad, [])
            self.refused("BadSize", is_ring_of, True, 1, bad, [0])
            self.refused("BadBook", is_ring_of, 2, 1, bad, [])
            self.refused("BadBook", is_ring_of, 2, 1, bad, None)
            self.refused("BadBook", is_ring_of, 2, 1, bad, [2])
        for bad in no_wholes() + far_numbers():
            self.refused("BadSize", is_ring_of, bad, bad, bad, bad)
            self.refused("BadBook", is_ring_of, 2, 2, bad, bad)


if __name__ == "__main__":
    unittest.main()
