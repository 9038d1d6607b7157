"""[1], [11] and [15]: two rings joined, several joined one by one, and what is refused."""

import itertools
import unittest

from fullring.joins import joined, joined_all
from fullring.pieces import pieces
from fullring.rings import turned
from fullring.words import all_words
from tests.helping import RingCase, bad_rings, bad_sizes, no_lists, no_wholes, words_round

SIZES = range(1, 9)


def rings_over(signs, most):
    """All rings of at most so many signs over the signs."""
    return [
        list(row)
        for many in range(1, most + 1)
        for row in itertools.product(range(signs), repeat=many)
    ]


def joined_by_looking(size, one, other):
    """What two rings make, or None, found in another way."""
    standing = words_round(other, size - 1)
    for place, word in enumerate(words_round(one, size - 1)):
        if word in standing:
            start = standing.index(word)
            return one[:place] + other[start:] + other[:start] + one[place:]
    return None


def all_by_looking(size, rings):
    """What several rings make, or None, found in another way."""
    ring, left = rings[0], rings[1:]
    while left:
        made = [joined_by_looking(size, ring, other) for other in left]
        able = [at for at, found in enumerate(made) if found is not None]
        if not able:
            return None
        ring = made[able[0]]
        left = left[:able[0]] + left[able[0] + 1:]
    return ring


def words_together(rings, size):
    """The words on all of some rings together, rising."""
    return sorted([word for ring in rings for word in words_round(ring, size)])


def bad_ring_lists():
    """Things that are no lists of one or more rings."""
    good = [[0, 1], [1, 2], [2, 0]]
    rows = no_lists() + [[]]
    for bad in bad_rings():
        rows += [[bad], [bad] + good, good[:2] + [bad] + good[2:], good + [bad]]
    return rows + [[good], [good[0], good], [bad_rings()], [0, 1], [0] * 300, [[]] * 300]


class Interface(unittest.TestCase):
    def test_each_function_is_defined_in_its_file(self):
        for call in (joined, joined_all):
            self.assertEqual("fullring.joins", call.__module__)


class Joined(RingCase):
    def test_one_joint_in_common(self):
        self.told([0, 1, 2, 1], joined, 2, [0, 1], [1, 2])
        self.told([0, 1, 2, 1], joined, 2, [0, 1], [2, 1])
        self.told([2, 1, 0, 1], joined, 2, [2, 1], [1, 0])
        self.told([3, 0, 1, 2, 7, 0, 1, 2], joined, 4, [3, 0, 1, 2], [1, 2, 7, 0])

    def test_the_first_place_of_the_first_ring(self):
        self.told([2, 1, 1, 3, 1], joined, 2, [2, 1, 3, 1], [1])
        self.told([5, 1, 0, 7, 1, 3, 0], joined, 2, [5, 1, 3, 0], [0, 7, 1])
        self.told([0, 0, 1, 1, 0, 1], joined, 3, [0, 0, 1], [0, 1, 1])

    def test_the_first_place_of_the_other_ring(self):
        self.told([1, 2, 1, 3, 0, 1], joined, 2, [1], [0, 1, 2, 1, 3])
        self.told([0, 1, 2, 0, 1, 3, 0, 1], joined, 3, [0, 1], [3, 0, 1, 2, 0, 1])

    def test_at_the_first_place(self):
        self.told([0, 1, 0, 1], joined, 2, [0, 1], [1, 0])
        self.told([1, 2, 0, 5, 0, 1, 2, 0], joined, 4, [1, 2, 0], [0, 1, 2, 0, 5])

    def test_at_the_last_place(self):
        self.told([2, 0, 1, 2, 2, 1], joined, 3, [2, 0, 1], [1, 2, 2])
        self.told([0, 0, 1, 2, 0, 1], joined, 3, [0, 0, 1], [1, 2, 0])

    def test_the_rings_are_no_pair_without_order(self):
        self.told([0, 1, 2, 1], joined, 2, [0, 1], [1, 2])
        self.told([1, 0, 1, 2], joined, 2, [1, 2], [0, 1])

    def test_none_in_common(self):
        self.refused("NoJoin", joined, 2, [0, 1], [2, 3])
        self.refused("NoJoin", joined, 3, [0], [0, 1])
        self.refused("NoJoin", joined, 3, [0, 1, 2], [2, 1, 0])
        self.refused("NoJoin", joined, 8, [0, 0, 1], [0, 1])
        self.refused("NoJoin", joined, 8, [0, 0, 0, 0, 0, 0, 1], [0])
        self.refused("NoJoin", joined, 8, [0], [0, 0, 0, 0, 0, 0, 1])

    def test_size_1(self):
        self.told([5, 4, 0, 1], joined, 1, [0, 1], [5, 4])
        self.told([0, 0, 1], joined, 1, [0, 1], [0])
        self.told([1, 0, 0, 1], joined, 1, [0, 1], [1, 0])
        self.told([8, 0], joined, 1, [0], [8])

    def test_sizes_greater_than_the_rings(self):
        self.told([0, 1, 0, 1], joined, 4, [0, 1], [0, 1])
        self.told([1, 0, 1, 0], joined, 5, [1, 0], [0, 1])
        self.told([0, 1, 0, 1, 0, 1], joined, 8, [0, 1], [1, 0, 1, 0])
        self.told([2, 0, 1, 2, 0, 1], joined, 8, [2, 0, 1], [0, 1, 2])

    def test_rings_of_one_sign(self):
        for size in SIZES:
            self.told([3, 3], joined, size, [3], [3])
            self.told([3, 3, 3], joined, size, [3], [3, 3])
        for size in range(2, 9):
            self.refused("NoJoin", joined, size, [3], [4])

    def test_a_ring_with_itself(self):
        ring = [0, 2, 1]
        for size in SIZES:
            self.told(ring + ring, joined, size, ring, ring)

    def test_a_ring_with_its_turn(self):
        ring = [0, 1, 1, 0, 2]
        for size in range(4, 9):
            for place in range(5):
                self.told(ring + ring, joined, size, ring, turned(ring, place))

    def test_all_short_rings(self):
        cases = [(rings_over(2, 4), SIZES), (rings_over(3, 3), range(1, 5))]
        for rings, sizes in cases:
            for one, other in itertools.product(rings, rings):
                for size in sizes:
                    self.joined_or_not(size, one, other)

    def test_longer_rings(self):
        rows = [[(place * place * step + place // 3) % 4 for place in range(step * 9)] for step in (1, 2, 5)]
        for one, other in itertools.permutations(rows, 2):
            for size in SIZES:
                self.joined_or_not(size, one, other)

    def joined_or_not(self, size, one, other):
        """Check what two rings make against what looking finds."""
        expected = joined_by_looking(size, one, other)
        if expected is None:
            self.refused("NoJoin", joined, size, one, other)
        else:
            ring = joined(size, one, other)
            self.alike(expected, ring)
            self.assertEqual(words_together([one, other], size), words_together([ring], size))

    def test_256_signs(self):
        self.told([0] * 256, joined, 8, [0] * 128, [0] * 128)
        self.told([1] + [0] * 255, joined, 1, [0] * 255, [1])
        self.told([2, 1] * 127 + [2, 0], joined, 2, [2, 0], [1, 2] * 127)

    def test_more_than_256_signs(self):
        for size in SIZES:
            self.refused("BadRing", joined, size, [0] * 129, [0] * 128)
            self.refused("BadRing", joined, size, [0], [0] * 256)
            self.refused("BadRing", joined, size, [0] * 256, [0])
            self.refused("BadRing", joined, size, [0] * 256, [1] * 256)

    def test_just_256_and_just_257_signs_that_can_not_be_joined(self):
        for size in range(2, 9):
            self.refused("NoJoin", joined, size, [0] * 128, [1] * 128)
            self.refused("NoJoin", joined, size, [0] * 255, [1])
            self.refused("BadRing", joined, size, [0] * 128, [1] * 129)
            self.refused("BadRing", joined, size, [0] * 256, [1])


class JoinedAll(RingCase):
    def test_one_ring(self):
        for size in SIZES:
            self.told([0], joined_all, size, [[0]])
            self.told([2, 0, 1], joined_all, size, [[2, 0, 1]])
            self.told([0, 1] * 128, joined_all, size, [[0, 1] * 128])

    def test_two_rings(self):
        for one, other in itertools.product(rings_over(2, 3), rings_over(3, 2)):
            for size in (1, 2, 3, 8):
                expected = joined_by_looking(size, one, other)
                if expected is None:
                    self.refused("NoJoin", joined_all, size, [one, other])
                else:
                    self.told(expected, joined_all, size, [one, other])

    def test_in_their_order(self):
        self.told([0, 2, 0, 1, 0], joined_all, 2, [[0], [1, 0], [0, 2]])
        self.told([0, 1, 0, 2, 0], joined_all, 2, [[0], [0, 2], [1, 0]])
        self.told([2, 1, 0], joined_all, 1, [[0], [1], [2]])
        self.told([5, 6, 3, 4, 1, 2], joined_all, 1, [[1, 2], [3, 4], [5, 6]])

    def test_only_in_another_order(self):
        self.told([0, 1, 2, 3, 2, 1], joined_all, 2, [[0, 1], [2, 3], [1, 2]])
        self.told([0, 1, 2, 3, 4, 3, 2, 1], joined_all, 2, [[0, 1], [3, 4], [2, 3], [1, 2]])
        self.told([2, 1, 0, 1, 2, 3], joined_all, 2, [[2, 3], [0, 1], [2, 1]])

    def test_back_to_the_first_of_those_that_are_left(self):
        self.told([0, 2, 3, 2, 1, 2, 0], joined_all, 2, [[0], [1, 2], [2, 0], [2, 3]])
        self.told([0, 2, 1, 2, 3, 2, 0], joined_all, 2, [[0], [2, 3], [2, 0], [1, 2]])

    def test_to_what_is_joined_so_far(self):
        # The third ring has no joint with the first one, but with the second one.
        self.told([0, 0, 1, 1, 1, 0], joined_all, 3, [[0], [0, 0, 1, 1], [1]])
        # The first place is that on the joined ring, not that on the first one.
        self.told([1, 3, 1, 0, 1, 2], joined_all, 2, [[1, 2], [0, 1], [1, 3]])

    def test_rings_that_are_alike(self):
        ring = [1, 0]
        self.told([1, 0] * 3, joined_all, 2, [ring, [1, 0], [1, 0]])
        self.told([1, 0] * 4, joined_all, 5, [ring, ring, ring, ring])
        self.told([0, 1, 2, 2, 1, 1], joined_all, 2, [[0, 1], [2], [1], [1, 2]])
        self.told([0, 1, 2, 2, 2, 1], joined_all, 2, [[0, 1], [2], [2], [1, 2]])

    def test_some_that_can_not_be_joined(self):
        for rings in (
            [[0, 1], [1, 2], [3, 4]], [[3, 4], [0, 1], [1, 2]], [[0, 1], [3, 4], [1, 2]],
            [[0], [1]], [[0], [0], [1]], [[0, 1], [2, 3], [3, 4], [4, 2]], [[5], [0], [0], [0]],
        ):
            self.refused("NoJoin", joined_all, 2, rings)
            self.refused("NoJoin", joined_all, 8, rings)

    def test_each_order_of_some_rings(self):
        rows = [[0, 1], [1, 1, 2], [2], [3, 0, 2], [0, 2, 2, 1], [1]]
        for many in range(1, 6):
            for rings in itertools.permutations(rows, many):
                for size in (1, 2, 3):
                    self.all_or_not(size, list(rings))

    def test_several_short_rings(self):
        for rings in itertools.product(rings_over(2, 3), repeat=3):
            for size in (1, 2, 3, 5):
                self.all_or_not(size, list(rings))

    def all_or_not(self, size, rings):
        """Check what several rings make against what looking finds."""
        expected = all_by_looking(size, rings)
        if expected is None:
            self.refused("NoJoin", joined_all, size, rings)
        else:
            ring = joined_all(size, rings)
            self.alike(expected, ring)
            self.assertEqual(words_together(rings, size), words_together([ring], size))

    def test_the_turn_rings_of_all_words(self):
        for signs, size in ((1, 8), (2, 3), (2, 8), (3, 5), (4, 4), (6, 3), (9, 2), (9, 1)):
            rings = pieces(signs, size)
            ring = joined_all(size, rings)
            self.alike(all_by_looking(size, rings), ring)
            self.assertEqual(all_words(signs, size), words_together([ring], size))

    def test_256_rings(self):
        self.told([0] * 256, joined_all, 8, [[0]] * 256)
        self.told([1] * 255 + [0], joined_all, 1, [[0]] + [[1]] * 255)
        self.refused("NoJoin", joined_all, 2, [[0]] + [[1]] * 255)
        self.refused("NoJoin", joined_all, 8, [[0]] * 255 + [[1]])

    def test_just_256_and_just_257_signs(self):
        self.told([0] * 256, joined_all, 3, [[0] * 100, [0] * 100, [0] * 56])
        for size in SIZES:
            self.refused("BadRing", joined_all, size, [[0] * 100, [0] * 100, [0] * 57])
            self.refused("BadRing", joined_all, size, [[0]] * 257)
            self.refused("BadRing", joined_all, size, [[0]] * 256 + [[1]])
            self.refused("BadRing", joined_all, size, [[0] * 256, [1]])
        for size in range(2, 9):
            self.refused("NoJoin", joined_all, size, [[0] * 100, [1] * 100, [2] * 56])
            self.refused("BadRing", joined_all, size, [[0] * 100, [1] * 100, [2] * 57])


class Refusals(RingCase):
    def test_sizes_that_are_none(self):
        for bad in bad_sizes():
            self.refused("BadSize", joined, bad, [0, 1], [1, 2])
            self.refused("BadSize", joined_all, bad, [[0, 1], [1, 2]])
            self.refused("BadSize", joined_all, bad, [[0]])

    def test_each_size_is_let_by_however_many_signs(self):
        for size in SIZES:
            self.told([8, 8], joined, size, [8], [8])
            self.told([8, 8], joined_all, size, [[8], [8]])

    def test_rings_that_are_none(self):
        for bad in bad_rings():
            self.refused("BadRing", joined, 1, bad, [0, 1])
            self.refused("BadRing", joined, 2, [0, 1], bad)
            self.refused("BadRing", joined, 8, bad, bad)

    def test_lists_of_rings_that_are_none(self):
        for bad in bad_ring_lists():
            self.refused("BadRing", joined_all, 1, bad)
            self.refused("BadRing", joined_all, 2, bad)

    def test_size_ahead_of_rings(self):
        for bad in bad_sizes():
            self.refused("BadSize", joined, bad, [], [0])
            self.refused("BadSize", joined, bad, [0], [9])
            self.refused("BadSize", joined, bad, [0] * 256, [1])
            self.refused("BadSize", joined, bad, [0], [1])
            self.refused("BadSize", joined_all, bad, [])
            self.refused("BadSize", joined_all, bad, bad)
            self.refused("BadSize", joined_all, bad, [[0], [9]])
            self.refused("BadSize", joined_all, bad, [[0], [1]])
        for bad in no_wholes():
            self.refused("BadSize", joined, bad, bad, bad)
        for bad in bad_rings():
            self.refused("BadSize", joined, 0, bad, [0])
            self.refused("BadSize", joined, 9, [0], bad)
        for bad in bad_ring_lists():
            self.refused("BadSize", joined_all, 9, bad)

    def test_rings_ahead_of_no_join(self):
        self.refused("BadRing", joined, 2, [0], [9])
        self.refused("BadRing", joined, 2, [9], [0])
        self.refused("BadRing", joined_all, 2, [[0], [1], [9]])
        self.refused("BadRing", joined_all, 2, [[0], [1], [True]])
        self.refused("BadRing", joined_all, 2, [[0], [1], []])


class Own(RingCase):
    def test_one_ring_alone_is_told_anew(self):
        rings = [[0, 1, 2]]
        told = joined_all(2, rings)
        told.append(3)
        self.alike([[0, 1, 2]], rings)
        self.alike([0, 1, 2], joined_all(2, rings))
        self.alike([0, 1, 2, 3], told)
        rings[0].append(4)
        rings.append([4])
        self.alike([0, 1, 2, 3], told)

    def test_what_is_told_stays_when_the_rings_change(self):
        one, other = [0, 1], [1, 2]
        told = [joined(2, one, other), joined_all(2, [one, other])]
        one.append(2)
        other[0] = 0
        self.alike([[0, 1, 2, 1], [0, 1, 2, 1]], told)
        self.alike([0, 2, 0, 1, 2], joined(2, one, other))

    def test_what_is_refused_stays_as_it_is(self):
        one, other, rings = [0, 1], [2, 3], [[0, 1], [1, 2], [3, 4], [3]]
        self.refused("NoJoin", joined, 2, one, other)
        self.refused("NoJoin", joined_all, 2, rings)
        self.alike([0, 1], one)
        self.alike([2, 3], other)
        self.alike([[0, 1], [1, 2], [3, 4], [3]], rings)


if __name__ == "__main__":
    unittest.main()
