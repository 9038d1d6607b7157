"""[1], [12], [13] and [15]: lifted rings, grown rings, and what is refused."""

import collections
import itertools
import math
import unittest

from fullring.growth import grown, lifted
from fullring.joins import joined_all
from fullring.pieces import least_full
from fullring.rings import turned
from fullring.words import all_words
from tests.helping import (
    RingCase, bad_rings, bad_signs, bad_sizes, far_numbers, no_wholes, rings_by_trying,
    words_round,
)

# Signs and a size whose words, of one sign more too, are at most 256.
GROWING = [
    (signs, size)
    for signs in range(1, 10)
    for size in range(1, 8)
    if signs ** (size + 1) <= 256
]


def lifted_by_counting(signs, ring):
    """The lifted rings of a ring, found in another way."""
    # Gone round, the ring has moved the beginning by all of its signs together.
    apart = math.gcd(sum(ring), signs)
    long = ring * (signs // apart)
    return [
        [(first + sum(long[:place])) % signs for place in range(len(long))]
        for first in range(apart)
    ]


def steps_of_word(signs, word):
    """The word of a word's steps."""
    return tuple([(after - before) % signs for before, after in zip(word, word[1:])])


def full_rings(signs, size):
    """All rings of the book of all words of the size, rising."""
    book = tuple([tuple(word) for word in all_words(signs, size)])
    return rings_by_trying(signs, size, len(book))[book]


def some_full_rings(signs, size):
    """A ring of all words: as it is, turned, told backwards, with its signs exchanged."""
    ring = least_full(signs, size)
    return [
        ring, turned(ring, len(ring) // 2), turned(ring, len(ring) - 1), ring[::-1],
        [signs - 1 - sign for sign in ring], [(sign + 1) % signs for sign in ring],
    ]


class Interface(unittest.TestCase):
    def test_each_function_is_defined_in_its_file(self):
        for call in (lifted, grown):
            self.assertEqual("fullring.growth", call.__module__)


class Lifted(RingCase):
    def test_one_sign(self):
        for many in (1, 2, 7, 256):
            self.told([[0] * many], lifted, 1, [0] * many)

    def test_rings_of_one_sign(self):
        self.told([[0], [1]], lifted, 2, [0])
        self.told([[0, 1]], lifted, 2, [1])
        self.told([[0, 2, 1]], lifted, 3, [2])
        self.told([[0, 2], [1, 3]], lifted, 4, [2])
        self.told([[0, 4, 2], [1, 5, 3]], lifted, 6, [4])
        self.told([[0, 8, 7, 6, 5, 4, 3, 2, 1]], lifted, 9, [8])

    def test_one_lifted_ring(self):
        self.told([[0, 0, 1, 1]], lifted, 2, [0, 1])
        self.told([[0, 1, 1, 0]], lifted, 2, [1, 0])
        self.told([[0, 0, 1, 1, 2, 2]], lifted, 3, [0, 1])
        self.told([[0, 2, 1, 0, 2, 1, 0, 2, 1, 0, 2, 1]], lifted, 3, [2, 2, 2, 2])

    def test_as_many_as_signs(self):
        self.told([[sign] for sign in range(9)], lifted, 9, [0])
        self.told([[0, 0, 0, 1], [1, 1, 1, 0]], lifted, 2, [0, 0, 1, 1])
        self.told([[0, 0, 1], [1, 1, 2], [2, 2, 0]], lifted, 3, [0, 1, 2])
        self.told([[0, 1], [1, 2], [2, 3], [3, 4], [4, 0]], lifted, 5, [1, 4])

    def test_some_between(self):
        self.told([[0, 3], [1, 4], [2, 5]], lifted, 6, [3])
        self.told([[0, 1, 2, 3], [1, 2, 3, 0]], lifted, 4, [1, 1])
        self.told([[0, 0, 2, 2], [1, 1, 3, 3]], lifted, 4, [0, 2])
        self.told(
            [[0, 2, 3, 5, 6, 8], [1, 3, 4, 6, 7, 0], [2, 4, 5, 7, 8, 1]],
            lifted, 9, [2, 1],
        )

    def test_a_sign_at_other_places_of_an_earlier_one_begins_one_of_its_own(self):
        self.told([[0, 1], [1, 0]], lifted, 2, [1, 1])
        self.told([[0, 1, 2], [1, 2, 0], [2, 0, 1]], lifted, 3, [1, 1, 1])
        self.told([[0, 1, 1, 0], [1, 0, 0, 1]], lifted, 2, [1, 0, 1, 0])

    def test_the_beginning_comes_again_only_with_the_ring_gone_round(self):
        self.told([[0, 0, 1, 1]], lifted, 2, [0, 1])
        self.told([[0, 0, 0], [1, 1, 1]], lifted, 2, [0, 0, 0])
        self.told([[0, 1, 0, 1], [1, 0, 1, 0]], lifted, 2, [1, 1, 1, 1])
        self.told([[0, 1, 0, 1, 0, 1]], lifted, 2, [1, 1, 1])

    def test_more_than_the_signs_that_stand_there(self):
        self.told([[0, 0, 1, 1, 2, 2, 3, 3, 4, 4]], lifted, 5, [0, 1])
        self.told([[0, 0, 1, 1, 2, 2, 3, 3, 4, 4, 5, 5, 6, 6, 7, 7, 8, 8]], lifted, 9, [0, 1])

    def test_all_short_rings(self):
        for signs, most in ((1, 6), (2, 8), (3, 5), (4, 4), (5, 3), (6, 3), (7, 3), (8, 2), (9, 2)):
            for many in range(1, most + 1):
                for ring in itertools.product(range(signs), repeat=many):
                    self.alike(lifted_by_counting(signs, list(ring)), lifted(signs, list(ring)))

    def test_longer_rings(self):
        for signs in range(1, 10):
            for step in range(signs):
                many = 256 // signs - step
                ring = [(place * place * step + place // 5) % signs for place in range(many)]
                self.told(lifted_by_counting(signs, ring), lifted, signs, ring)

    def test_words_of_one_sign_more_stand_there_as_often_as_their_steps(self):
        for signs, ring in (
            (1, [0, 0]), (2, [0]), (2, [1]), (2, [0, 1, 1]), (3, [0, 2, 1]), (3, [2, 2]),
            (4, [2]), (4, [0, 2, 3, 3, 1]), (5, [4, 0, 1]), (6, [3, 1, 2, 2]), (9, [3, 6, 1]),
        ):
            for size in (1, 2, 3):
                steps = collections.Counter([tuple(word) for word in words_round(ring, size)])
                rings = lifted(signs, ring)
                words = collections.Counter([
                    tuple(word) for made in rings for word in words_round(made, size + 1)
                ])
                for word in itertools.product(range(signs), repeat=size + 1):
                    self.assertEqual(steps[steps_of_word(signs, word)], words[word])

    def test_256_signs_together(self):
        self.told([[0] * 128, [1] * 128], lifted, 2, [0] * 128)
        self.told(
            [[0, 1, 2, 3] * 16, [1, 2, 3, 0] * 16, [2, 3, 0, 1] * 16, [3, 0, 1, 2] * 16],
            lifted, 4, [1] * 64,
        )
        self.told([[sign] * 28 for sign in range(9)], lifted, 9, [0] * 28)
        self.told([[0] * 256], lifted, 1, [0] * 256)


class LiftedRefusals(RingCase):
    def test_signs_that_are_none(self):
        for bad in bad_signs():
            self.refused("BadSize", lifted, bad, [0])
            self.refused("BadSize", lifted, bad, [0, 1])

    def test_rings_that_are_none(self):
        for signs in (1, 2, 9):
            for bad in bad_rings():
                self.refused("BadRing", lifted, signs, bad)

    def test_a_sign_that_is_none_of_so_many(self):
        for signs in range(1, 9):
            self.refused("BadRing", lifted, signs, [signs])
            self.refused("BadRing", lifted, signs, [0, 0, signs])
            self.refused("BadRing", lifted, signs, [signs, 0, 0])
            self.refused("BadRing", lifted, signs, [0, 8, 0])

    def test_more_than_256_signs_together(self):
        for signs in range(2, 10):
            most = 256 // signs
            self.assertEqual(signs, len(lifted(signs, [0] * most)))
            self.refused("BadRing", lifted, signs, [0] * (most + 1))
            self.refused("BadRing", lifted, signs, [0] * most + [1])
            self.refused("BadRing", lifted, signs, [0] * 256)
        self.refused("BadRing", lifted, 1, [0] * 257)

    def test_signs_ahead_of_ring(self):
        for bad in bad_signs():
            self.refused("BadSize", lifted, bad, [])
            self.refused("BadSize", lifted, bad, bad)
            self.refused("BadSize", lifted, bad, [0] * 257)
        for bad in bad_rings():
            self.refused("BadSize", lifted, 0, bad)
            self.refused("BadSize", lifted, 10, bad)


class Grown(RingCase):
    def grows(self, signs, size, ring):
        """Check that a ring grows to one of all words of one sign more."""
        told = grown(signs, size, ring)
        self.assertEqual(all_words(signs, size + 1), sorted(words_round(told, size + 1)))
        self.alike(joined_all(size + 1, lifted(signs, ring)), told)

    def test_one_sign(self):
        for size in range(1, 8):
            self.told([0], grown, 1, size, [0])

    def test_size_1(self):
        self.told([0, 0, 1, 1], grown, 2, 1, [0, 1])
        self.told([0, 1, 1, 0], grown, 2, 1, [1, 0])
        self.told([0, 2, 2, 0, 0, 1, 1, 2, 1], grown, 3, 1, [0, 1, 2])

    def test_greater_sizes(self):
        self.told([0, 0, 0, 1, 1, 1, 0, 1], grown, 2, 2, [0, 0, 1, 1])
        self.told([0, 1, 1, 1, 0, 1, 0, 0], grown, 2, 2, [1, 1, 0, 0])

    def test_rings_of_all_words(self):
        for signs, size in GROWING:
            for ring in some_full_rings(signs, size):
                self.grows(signs, size, ring)

    def test_each_ring_of_all_words(self):
        for signs, size in ((2, 1), (2, 2), (2, 3), (3, 1), (3, 2), (4, 1), (5, 1)):
            for ring in full_rings(signs, size):
                self.grows(signs, size, ring)

    def test_each_exchange_of_signs(self):
        for signs, size in ((3, 3), (4, 2), (4, 3), (5, 2)):
            ring = least_full(signs, size)
            for other in itertools.permutations(range(signs)):
                self.grows(signs, size, [other[sign] for sign in ring])

    def test_256_words(self):
        for signs, size in ((2, 7), (4, 3)):
            ring = turned(least_full(signs, size), 5)
            self.told(joined_all(size + 1, lifted(signs, ring)), grown, signs, size, ring)

    def test_step_by_step(self):
        for signs, most in ((1, 8), (2, 8), (3, 5), (4, 4), (5, 3), (6, 3), (9, 2)):
            ring = list(range(signs))
            for size in range(1, most):
                self.grows(signs, size, ring)
                ring = grown(signs, size, ring)


class GrownRefusals(RingCase):
    def test_signs_and_sizes_that_are_none(self):
        for bad in bad_signs():
            self.refused("BadSize", grown, bad, 1, [0])
            self.refused("BadSize", grown, bad, bad, [0])
        for bad in bad_sizes():
            self.refused("BadSize", grown, 1, bad, [0])
            self.refused("BadSize", grown, 2, bad, [0, 1])

    def test_signs_and_a_size_that_do_not_go_together(self):
        for signs, size in ((3, 6), (5, 4), (7, 3), (4, 5), (9, 8), (3, 8)):
            self.refused("BadSize", grown, signs, size, [0])

    def test_signs_and_one_sign_more_that_do_not_go_together(self):
        for signs in range(1, 10):
            for size in range(1, 9):
                if signs ** size <= 256 and (signs, size) not in GROWING:
                    self.refused("BadSize", grown, signs, size, least_full(signs, size))
                    self.refused("BadSize", grown, signs, size, [0])
        self.refused("BadSize", grown, 1, 8, [0])
        self.refused("BadSize", grown, 2, 8, least_full(2, 8))
        self.refused("BadSize", grown, 3, 5, least_full(3, 5))
        self.refused("BadSize", grown, 7, 2, least_full(7, 2))

    def test_rings_that_are_none(self):
        for signs, size in ((1, 1), (1, 7), (2, 1), (2, 7), (4, 3), (9, 1)):
            for bad in bad_rings():
                self.refused("BadRing", grown, signs, size, bad)

    def test_a_sign_that_is_none_of_so_many(self):
        self.refused("BadRing", grown, 1, 3, [1])
        self.refused("BadRing", grown, 2, 1, [0, 2])
        self.refused("BadRing", grown, 2, 2, [0, 0, 2, 2])
        self.refused("BadRing", grown, 3, 1, [1, 2, 3])
        self.refused("BadRing", grown, 8, 1, [1, 2, 3, 4, 5, 6, 7, 8])

    def test_a_sign_changed(self):
        for signs, size in ((2, 1), (2, 3), (2, 7), (3, 2), (4, 3), (9, 1)):
            ring = least_full(signs, size)
            for place, sign in enumerate(ring):
                other = (sign + 1) % signs
                self.refused("BadRing", grown, signs, size, ring[:place] + [other] + ring[place + 1:])

    def test_one_too_few_and_one_too_many(self):
        for signs, size in ((1, 1), (1, 7), (2, 1), (2, 3), (2, 7), (3, 2), (4, 3), (9, 1)):
            ring = least_full(signs, size)
            for place in range(len(ring)):
                self.refused("BadRing", grown, signs, size, ring[:place] + ring[place + 1:])
                self.refused("BadRing", grown, signs, size, ring[:place] + [0] + ring[place:])

    def test_each_ring_of_other_words(self):
        full = full_rings(2, 3)
        for ring in itertools.product(range(2), repeat=8):
            if list(ring) not in full:
                self.refused("BadRing", grown, 2, 3, list(ring))

    def test_a_ring_of_another_size(self):
        self.refused("BadRing", grown, 2, 2, [0, 1])
        self.refused("BadRing", grown, 2, 1, [0, 0, 1, 1])
        self.refused("BadRing", grown, 2, 3, [0, 0, 1, 1])
        self.refused("BadRing", grown, 2, 2, [0, 0, 1, 1] * 2)
        self.refused("BadRing", grown, 3, 2, [0, 0, 1, 1])
        self.refused("BadRing", grown, 1, 2, [0, 0])

    def test_size_ahead_of_ring(self):
        for bad in no_wholes() + far_numbers():
            self.refused("BadSize", grown, bad, 1, bad)
            self.refused("BadSize", grown, 1, bad, bad)
            self.refused("BadSize", grown, 2, 8, bad)
            self.refused("BadSize", grown, 3, 6, bad)
        for bad in bad_rings():
            self.refused("BadSize", grown, 3, 5, bad)
            self.refused("BadSize", grown, 1, 8, bad)
            self.refused("BadSize", grown, 0, 1, bad)


class Own(RingCase):
    def test_lifted_rings_are_not_the_ring(self):
        ring = [0, 0]
        told = lifted(2, ring)
        told[0].append(5)
        told.append([6])
        self.alike([[0, 0, 5], [1, 1], [6]], told)
        self.alike([0, 0], ring)
        self.alike([[0, 0], [1, 1]], lifted(2, ring))
        ring[0] = 1
        self.alike([[0, 0, 5], [1, 1], [6]], told)

    def test_a_grown_ring_is_not_the_ring(self):
        ring = [0]
        told = grown(1, 1, ring)
        told.append(5)
        self.alike([0], ring)
        self.alike([0], grown(1, 1, ring))
        ring.append(0)
        self.alike([0, 5], told)

    def test_what_is_refused_stays_as_it_is(self):
        ring = [0, 1, 1, 1]
        self.refused("BadRing", grown, 2, 2, ring)
        self.refused("BadRing", lifted, 1, ring)
        self.alike([0, 1, 1, 1], ring)


if __name__ == "__main__":
    unittest.main()
