"""[1], [2], [3] and [15]: words, their numbers, pieces in them, and what is refused."""

import copy
import itertools
import unittest

from fullring import words
from fullring.words import all_words, free_of, number_of, word_of
from tests.helping import (
    RingCase, bad_pieces, bad_signs, bad_sizes, far_numbers, no_lists, no_wholes,
)

TOGETHER = [
    (signs, size)
    for signs in range(1, 10)
    for size in range(1, 9)
    if signs ** size <= 256
]
APART = [
    (signs, size)
    for signs in range(1, 10)
    for size in range(1, 9)
    if signs ** size > 256
]


def product_words(signs, size):
    """All words, found in another way."""
    return [list(word) for word in itertools.product(range(signs), repeat=size)]


def has_piece(word, piece):
    """Whether a piece stands in a word, found in another way."""
    text = "".join([str(sign) for sign in word])
    return "".join([str(sign) for sign in piece]) in text


class Interface(unittest.TestCase):
    def test_each_function_is_defined_in_its_file(self):
        for call in (all_words, number_of, word_of, free_of):
            self.assertEqual("fullring.words", call.__module__)

    def test_limits(self):
        self.assertEqual("9", repr(words.MOST_SIGNS))
        self.assertEqual("8", repr(words.MOST_SIZE))
        self.assertEqual("256", repr(words.MOST_WORDS))


class AllWords(RingCase):
    def test_plain(self):
        self.told([[0, 0], [0, 1], [1, 0], [1, 1]], all_words, 2, 2)
        self.told([[0], [1], [2]], all_words, 3, 1)

    def test_ends(self):
        self.told([[0]], all_words, 1, 1)
        self.told([[0] * 8], all_words, 1, 8)
        self.told([[sign] for sign in range(9)], all_words, 9, 1)
        self.told(product_words(9, 2), all_words, 9, 2)

    def test_exactly_256(self):
        for signs, size in ((2, 8), (4, 4)):
            self.assertEqual(256, len(all_words(signs, size)))
            self.told(product_words(signs, size), all_words, signs, size)

    def test_all_that_go_together(self):
        for signs, size in TOGETHER:
            with self.subTest(signs=signs, size=size):
                found = all_words(signs, size)
                self.assertEqual(signs ** size, len(found))
                self.assertEqual(sorted(found), found)
                self.alike(product_words(signs, size), found)

    def test_bad_sizes(self):
        for signs, size in APART:
            self.refused("BadSize", all_words, signs, size)
        for thing in bad_signs():
            self.refused("BadSize", all_words, thing, 1)
        for thing in bad_sizes():
            self.refused("BadSize", all_words, 1, thing)
            self.refused("BadSize", all_words, 2, thing)
            self.refused("BadSize", all_words, thing, thing)


class Numbers(RingCase):
    def test_plain(self):
        self.told(0, number_of, 2, 3, [0, 0, 0])
        self.told(5, number_of, 2, 3, [1, 0, 1])
        self.told(5, number_of, 3, 2, [1, 2])
        self.told([1, 0, 1], word_of, 2, 3, 5)
        self.told([1, 2], word_of, 3, 2, 5)

    def test_ends(self):
        self.told(0, number_of, 1, 1, [0])
        self.told(0, number_of, 1, 8, [0] * 8)
        self.told(8, number_of, 9, 1, [8])
        self.told(80, number_of, 9, 2, [8, 8])
        self.told(255, number_of, 2, 8, [1] * 8)
        self.told(255, number_of, 4, 4, [3] * 4)
        self.told([0] * 8, word_of, 1, 8, 0)
        self.told([8, 8], word_of, 9, 2, 80)
        self.told([1] * 8, word_of, 2, 8, 255)

    def test_each_leads_to_the_other(self):
        for signs, size in TOGETHER:
            with self.subTest(signs=signs, size=size):
                for number, word in enumerate(product_words(signs, size)):
                    self.alike(number, number_of(signs, size, word))
                    self.alike(word, word_of(signs, size, number))

    def test_bad_sizes(self):
        for signs, size in APART:
            self.refused("BadSize", number_of, signs, size, [0] * size)
            self.refused("BadSize", word_of, signs, size, 0)
        for thing in bad_signs():
            self.refused("BadSize", number_of, thing, 1, [0])
            self.refused("BadSize", word_of, thing, 1, 0)
        for thing in bad_sizes():
            self.refused("BadSize", number_of, 1, thing, [0])
            self.refused("BadSize", word_of, 1, thing, 0)

    def test_bad_words(self):
        for signs in (1, 3, 9):
            for word in bad_pieces(signs):
                self.refused("BadWord", number_of, signs, 1, word)
        for word in bad_pieces(2):
            self.refused("BadWord", number_of, 2, 3, word)
            self.refused("BadWord", number_of, 2, 8, word)

    def test_words_of_another_size(self):
        for size, other in itertools.permutations(range(1, 9), 2):
            self.refused("BadWord", number_of, 2, size, [0] * other)

    def test_bad_words_of_the_size(self):
        for word in ([0, 0, 2], [2, 0, 0], [0, -1, 0], [0, True, 0], [0, "0", 0], [0, 0, None]):
            self.refused("BadWord", number_of, 2, 3, word)

    def test_numbers_of_no_word(self):
        for signs, size in TOGETHER:
            self.refused("BadWord", word_of, signs, size, signs ** size)
            self.refused("BadWord", word_of, signs, size, -1)
        for thing in no_wholes() + far_numbers():
            self.refused("BadWord", word_of, 2, 3, thing)
            self.refused("BadWord", word_of, 2, 8, thing)

    def test_size_is_refused_ahead_of_word(self):
        for thing in bad_signs():
            self.refused("BadSize", number_of, thing, 1, thing)
            self.refused("BadSize", word_of, thing, 1, -1)
        for thing in bad_sizes():
            self.refused("BadSize", number_of, 2, thing, thing)
            self.refused("BadSize", word_of, 2, thing, thing)
        self.refused("BadSize", number_of, 3, 6, [0])
        self.refused("BadSize", word_of, 3, 6, 3 ** 6)


class FreeOf(RingCase):
    def test_no_pieces(self):
        self.told([[0, 0], [0, 1], [1, 0], [1, 1]], free_of, 2, 2, [])
        for signs, size in TOGETHER:
            self.alike(product_words(signs, size), free_of(signs, size, []))

    def test_plain(self):
        self.told([[0, 0, 0], [0, 0, 1], [0, 1, 0], [1, 0, 0], [1, 0, 1]], free_of, 2, 3, [[1, 1]])
        self.told([[0, 1], [1, 0]], free_of, 2, 2, [[1, 1], [0, 0]])

    def test_at_the_beginning_in_the_middle_and_at_the_end(self):
        found = free_of(3, 4, [[1, 2]])
        for word in ([1, 2, 0, 0], [0, 1, 2, 0], [0, 0, 1, 2], [1, 2, 1, 2]):
            self.assertNotIn(word, found)
        for word in ([2, 1, 0, 0], [1, 0, 2, 0], [2, 0, 0, 1], [1, 1, 0, 2]):
            self.assertIn(word, found)

    def test_a_piece_is_not_read_round(self):
        self.assertIn([1, 0, 0], free_of(2, 3, [[0, 1]]))

    def test_a_word_as_a_piece(self):
        expected = [word for word in product_words(2, 3) if word != [0, 1, 0]]
        self.told(expected, free_of, 2, 3, [[0, 1, 0]])

    def test_a_piece_longer_than_the_size(self):
        self.told([[0, 0], [0, 1], [1, 0], [1, 1]], free_of, 2, 2, [[0, 0, 0], [0] * 8])
        self.told([[0]], free_of, 1, 1, [[0] * 8])
        self.told([[0, 1], [1, 0], [1, 1]], free_of, 2, 2, [[0, 0, 1], [0, 0]])

    def test_pieces_of_one_sign(self):
        self.told([[0, 0], [0, 2], [2, 0], [2, 2]], free_of, 3, 2, [[1]])
        self.told([[1, 1, 1]], free_of, 3, 3, [[2], [0]])

    def test_all_signs_as_pieces(self):
        for signs, size in TOGETHER:
            self.told([], free_of, signs, size, [[sign] for sign in range(signs)])

    def test_one_piece_twice(self):
        self.told([[1]], free_of, 2, 1, [[0], [0]])

    def test_pieces_of_many_signs_and_sizes(self):
        cases = [
            (2, 8, [[0, 0], [1, 0, 1]]), (2, 8, [[1, 1, 1, 1]]), (2, 5, [[0, 1, 0, 1, 0]]),
            (4, 4, [[3], [0, 1]]), (9, 2, [[8], [0, 0], [4, 3]]), (3, 5, [[2, 2], [0, 1, 2]]),
            (1, 8, [[0, 0]]), (1, 3, [[0, 0, 0, 0]]),
        ]
        for signs, size, pieces in cases:
            with self.subTest(signs=signs, size=size, pieces=pieces):
                expected = [
                    word
                    for word in product_words(signs, size)
                    if not any(has_piece(word, piece) for piece in pieces)
                ]
                self.told(expected, free_of, signs, size, pieces)
                self.told(expected, free_of, signs, size, pieces[::-1])

    def test_bad_sizes(self):
        for signs, size in APART:
            self.refused("BadSize", free_of, signs, size, [])
        for thing in bad_signs():
            self.refused("BadSize", free_of, thing, 1, [])
        for thing in bad_sizes():
            self.refused("BadSize", free_of, 1, thing, [[0]])

    def test_pieces_that_are_no_list(self):
        for thing in no_lists():
            self.refused("BadWord", free_of, 2, 3, thing)

    def test_bad_pieces(self):
        for signs, size in ((1, 8), (2, 3), (9, 2)):
            for piece in bad_pieces(signs):
                self.refused("BadWord", free_of, signs, size, [piece])
                self.refused("BadWord", free_of, signs, size, [[0], piece])
                self.refused("BadWord", free_of, signs, size, [piece, [0], [0, 0]])

    def test_a_bad_piece_behind_pieces_that_leave_no_word(self):
        self.refused("BadWord", free_of, 2, 3, [[0], [1], [2]])
        self.refused("BadWord", free_of, 2, 3, [[0], [1], []])

    def test_size_is_refused_ahead_of_pieces(self):
        for thing in bad_signs():
            self.refused("BadSize", free_of, thing, 1, [[9]])
        for thing in bad_sizes():
            self.refused("BadSize", free_of, 2, thing, thing)
        self.refused("BadSize", free_of, 9, 3, None)


class Own(RingCase):
    def test_what_is_told_can_be_changed(self):
        first = all_words(2, 2)
        first[1].append(5)
        del first[0]
        self.alike([[0, 0], [0, 1], [1, 0], [1, 1]], all_words(2, 2))
        self.alike([[0, 0], [0, 1], [1, 0], [1, 1]], free_of(2, 2, []))
        self.alike([0, 1], word_of(2, 2, 1))
        self.alike([[0, 1, 5], [1, 0], [1, 1]], first)

    def test_a_told_word_can_be_changed(self):
        word = word_of(2, 3, 5)
        word[0] = 0
        self.alike([1, 0, 1], word_of(2, 3, 5))
        self.alike(1, number_of(2, 3, word))
        self.alike([0, 0, 1], word)

    def test_pieces_stay_as_they_are(self):
        pieces = [[1, 1], [0, 0, 0], [1, 1]]
        free_of(2, 3, pieces)
        self.alike([[1, 1], [0, 0, 0], [1, 1]], pieces)
        pieces.append([2])
        self.refused("BadWord", free_of, 2, 3, pieces)
        self.alike([[1, 1], [0, 0, 0], [1, 1], [2]], pieces)

    def test_pieces_can_be_changed_behind_the_call(self):
        pieces = [[1, 1]]
        before = free_of(2, 2, pieces)
        kept = copy.deepcopy(before)
        pieces[0][0] = 0
        self.alike([[0, 0], [1, 0], [1, 1]], free_of(2, 2, pieces))
        self.alike(kept, before)

    def test_a_refused_word_stays_as_it_is(self):
        word = [0, 2, True]
        self.refused("BadWord", number_of, 2, 3, word)
        self.alike([0, 2, True], word)


if __name__ == "__main__":
    unittest.main()
