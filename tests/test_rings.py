"""[1], [5], [6] and [15]: rings, words on them, turns, and what is refused."""

import itertools
import unittest

from fullring.rings import least_turn, place_of, turn_ring, turned, word_at, words_on
from tests.helping import (
    RingCase, bad_pieces, bad_rings, bad_sizes, far_numbers, no_wholes,
)

LONG = [(place * place + place // 7) % 9 for place in range(256)]
RINGS = [
    [0], [8], [0, 1], [1, 0], [2, 2], [2, 0, 1], [0, 0, 1, 0, 1, 1], [1, 0, 1, 0, 1, 0],
    [0, 1, 2, 0, 1, 2, 0, 1, 2], [3, 1, 4, 1, 5, 8, 2, 6, 5], [1, 1, 0, 1, 1, 1, 0], LONG,
    [4] * 256, [0, 1] * 128, [1] * 255 + [0],
]


def turns(ring):
    """All turns of a ring, in order, found in another way."""
    return [ring[place:] + ring[:place] for place in range(len(ring))]


def round_words(ring, size):
    """The words at all places of a ring, found in another way."""
    long = ring * (size + 1)
    return [long[place:place + size] for place in range(len(ring))]


class Interface(unittest.TestCase):
    def test_each_function_is_defined_in_its_file(self):
        for call in (word_at, words_on, place_of, turned, least_turn, turn_ring):
            self.assertEqual("fullring.rings", call.__module__)


class WordsOn(RingCase):
    def test_plain(self):
        self.told([[0, 0], [0, 1], [1, 1], [1, 0]], words_on, [0, 0, 1, 1], 2)
        self.told([[2, 0, 1], [0, 1, 2], [1, 2, 0]], words_on, [2, 0, 1], 3)

    def test_size_1(self):
        self.told([[5], [0], [5]], words_on, [5, 0, 5], 1)

    def test_ring_of_1_sign(self):
        for size in range(1, 9):
            self.told([[7] * size], words_on, [7], size)

    def test_sizes_greater_than_the_ring(self):
        self.told([[0, 1, 0, 1, 0], [1, 0, 1, 0, 1]], words_on, [0, 1], 5)
        self.told(
            [[0, 1, 2, 0, 1, 2, 0, 1], [1, 2, 0, 1, 2, 0, 1, 2], [2, 0, 1, 2, 0, 1, 2, 0]],
            words_on, [0, 1, 2], 8,
        )

    def test_a_repeated_row_has_its_words_as_often(self):
        self.told([[0, 1], [1, 0], [0, 1], [1, 0]], words_on, [0, 1, 0, 1], 2)

    def test_many_rings_and_sizes(self):
        for ring in RINGS:
            for size in range(1, 9):
                self.told(round_words(ring, size), words_on, ring, size)

    def test_bad_sizes(self):
        for thing in bad_sizes():
            self.refused("BadSize", words_on, [0, 1], thing)

    def test_bad_rings(self):
        for ring in bad_rings():
            self.refused("BadRing", words_on, ring, 2)

    def test_size_is_refused_ahead_of_ring(self):
        for ring in bad_rings():
            self.refused("BadSize", words_on, ring, 9)
        for thing in bad_sizes():
            self.refused("BadSize", words_on, thing, thing)
            self.refused("BadSize", words_on, [], thing)


class WordAt(RingCase):
    def test_plain(self):
        self.told([0, 1, 1], word_at, [0, 0, 1, 1], 3, 1)
        self.told([1, 0, 0], word_at, [0, 0, 1, 1], 3, 3)

    def test_ring_of_1_sign(self):
        self.told([3], word_at, [3], 1, 0)
        self.told([3] * 8, word_at, [3], 8, 0)

    def test_round_and_round(self):
        self.told([1, 0, 1, 0, 1], word_at, [0, 1], 5, 1)
        self.told([2, 0, 1, 2, 0, 1, 2, 0], word_at, [0, 1, 2], 8, 2)

    def test_last_place_of_256(self):
        self.told(LONG[255:] + LONG[:7], word_at, LONG, 8, 255)

    def test_many_rings_and_sizes(self):
        for ring in RINGS:
            for size in (1, 2, 5, 8):
                for place, word in enumerate(round_words(ring, size)):
                    self.alike(word, word_at(ring, size, place))

    def test_bad_sizes(self):
        for thing in bad_sizes():
            self.refused("BadSize", word_at, [0, 1], thing, 0)

    def test_bad_rings(self):
        for ring in bad_rings():
            self.refused("BadRing", word_at, ring, 2, 0)

    def test_places_that_are_none(self):
        for thing in no_wholes() + far_numbers():
            self.refused("NoWord", word_at, [0, 1, 2], 2, thing)
            self.refused("NoWord", word_at, LONG, 2, thing)

    def test_places_that_are_not_there(self):
        for ring in RINGS:
            self.refused("NoWord", word_at, ring, 2, len(ring))
            self.refused("NoWord", word_at, ring, 2, -1)
            self.refused("NoWord", word_at, ring, 2, -len(ring))
        self.refused("NoWord", word_at, [0, 1], 8, 2)

    def test_order(self):
        for thing in bad_sizes():
            self.refused("BadSize", word_at, [0, 1], thing, 2)
            self.refused("BadSize", word_at, [9], thing, -1)
            self.refused("BadSize", word_at, [], thing, 0)
        for ring in bad_rings():
            self.refused("BadSize", word_at, ring, 0, None)
            self.refused("BadRing", word_at, ring, 1, None)
            self.refused("BadRing", word_at, ring, 8, 300)


class PlaceOf(RingCase):
    def test_plain(self):
        self.told(1, place_of, [0, 0, 1, 1], [0, 1])
        self.told(2, place_of, [0, 0, 1, 1], [1, 1])

    def test_first_of_several(self):
        self.told(0, place_of, [0, 1, 0, 1], [0, 1])
        self.told(1, place_of, [0, 1, 0, 1], [1, 0])
        self.told(1, place_of, [3, 2, 2, 2], [2])
        self.told(0, place_of, [5] * 256, [5] * 8)

    def test_last_place(self):
        self.told(3, place_of, [0, 0, 1, 1], [1, 0])
        self.told(255, place_of, [1] * 255 + [0], [0])
        self.told(255, place_of, [1] * 255 + [0], [0, 1, 1, 1, 1, 1, 1, 1])

    def test_ring_of_1_sign(self):
        self.told(0, place_of, [8], [8])
        self.told(0, place_of, [8], [8] * 8)

    def test_round_and_round(self):
        self.told(1, place_of, [0, 1], [1, 0, 1, 0, 1])
        self.told(2, place_of, [0, 1, 2], [2, 0, 1, 2, 0, 1, 2, 0])

    def test_many_rings_and_sizes(self):
        for ring in RINGS:
            for size in range(1, 9):
                words = round_words(ring, size)
                for word in words:
                    self.alike(words.index(word), place_of(ring, word))

    def test_words_that_do_not_stand_there(self):
        for ring, word in (
            ([0, 0, 1, 1], [2]), ([0, 0, 1, 1], [0, 0, 0]), ([0, 0, 1, 1], [1, 0, 1]),
            ([0], [1]), ([0], [0, 1]), ([0, 1], [0, 0]), ([0, 1], [0, 1, 0, 1, 0, 1, 0, 0]),
            ([4] * 256, [4, 4, 4, 4, 4, 4, 4, 5]), ([0, 1, 2], [0, 2]), ([1, 0], [8]),
        ):
            self.refused("NoWord", place_of, ring, word)

    def test_bad_words(self):
        for word in bad_pieces(9):
            self.refused("BadWord", place_of, [0, 1], word)
        self.refused("BadWord", place_of, [1], [True])
        self.refused("BadWord", place_of, [0], [0] * 9)

    def test_bad_rings(self):
        for ring in bad_rings():
            self.refused("BadRing", place_of, ring, [0])
            self.refused("BadRing", place_of, ring, [0, 1, 7])

    def test_order(self):
        for ring in bad_rings():
            self.refused("BadWord", place_of, ring, [9])
            self.refused("BadWord", place_of, ring, None)
        for word in bad_pieces(9):
            self.refused("BadWord", place_of, [0, 9], word)
            self.refused("BadWord", place_of, word, word)


class Turned(RingCase):
    def test_plain(self):
        self.told([2, 0, 1], turned, [0, 1, 2], 2)
        self.told([1, 2, 0], turned, [0, 1, 2], 1)

    def test_ends(self):
        self.told([0, 1, 2], turned, [0, 1, 2], 0)
        self.told([6], turned, [6], 0)
        self.told(LONG[255:] + LONG[:255], turned, LONG, 255)
        self.told(LONG, turned, LONG, 0)

    def test_a_repeated_row(self):
        self.told([1, 0, 1, 0], turned, [0, 1, 0, 1], 1)
        self.told([0, 1, 0, 1], turned, [0, 1, 0, 1], 2)

    def test_many_rings(self):
        for ring in RINGS:
            for place, turn in enumerate(turns(ring)):
                self.alike(turn, turned(ring, place))

    def test_bad_rings(self):
        for ring in bad_rings():
            self.refused("BadRing", turned, ring, 0)

    def test_places_that_are_none(self):
        for thing in no_wholes() + far_numbers():
            self.refused("NoWord", turned, [0, 1, 2], thing)
            self.refused("NoWord", turned, LONG, thing)

    def test_places_that_are_not_there(self):
        for ring in RINGS:
            self.refused("NoWord", turned, ring, len(ring))
            self.refused("NoWord", turned, ring, -1)
            self.refused("NoWord", turned, ring, -len(ring))

    def test_order(self):
        for ring in bad_rings():
            self.refused("BadRing", turned, ring, None)
            self.refused("BadRing", turned, ring, -1)
            self.refused("BadRing", turned, ring, 300)


class LeastTurn(RingCase):
    def test_plain(self):
        self.told([0, 1, 2], least_turn, [2, 0, 1])
        self.told([0, 0, 1, 0, 1, 1], least_turn, [1, 0, 1, 1, 0, 0])

    def test_one_that_is_the_least_already(self):
        self.told([0, 0, 1], least_turn, [0, 0, 1])
        self.told([8], least_turn, [8])

    def test_the_least_sign_is_not_enough(self):
        self.told([0, 1, 0, 2], least_turn, [0, 2, 0, 1])
        self.told([1, 1, 2, 1, 3], least_turn, [1, 3, 1, 1, 2])

    def test_a_repeated_row(self):
        self.told([0, 1, 0, 1], least_turn, [1, 0, 1, 0])
        self.told([4] * 256, least_turn, [4] * 256)

    def test_256_signs(self):
        self.told([0] + [1] * 255, least_turn, [1] * 255 + [0])
        self.told(min(turns(LONG)), least_turn, LONG)

    def test_each_turn_has_the_same_one(self):
        for ring in RINGS:
            expected = sorted(turns(ring))[0]
            for turn in turns(ring)[:12]:
                self.alike(expected, least_turn(turn))

    def test_all_short_rings(self):
        for many in range(1, 6):
            for signs in itertools.product(range(3), repeat=many):
                ring = list(signs)
                self.alike(sorted(turns(ring))[0], least_turn(ring))

    def test_bad_rings(self):
        for ring in bad_rings():
            self.refused("BadRing", least_turn, ring)


class TurnRing(RingCase):
    def test_words_of_one_sign(self):
        for sign in range(9):
            self.told([sign], turn_ring, [sign])

    def test_words_that_repeat_one_sign(self):
        for size in range(2, 9):
            self.told([3], turn_ring, [3] * size)

    def test_words_that_repeat_a_list(self):
        self.told([0, 1], turn_ring, [0, 1, 0, 1])
        self.told([1, 0], turn_ring, [1, 0, 1, 0, 1, 0])
        self.told([8, 0], turn_ring, [8, 0] * 4)
        self.told([0, 0, 1], turn_ring, [0, 0, 1, 0, 0, 1])
        self.told([2, 0, 1, 1], turn_ring, [2, 0, 1, 1, 2, 0, 1, 1])

    def test_words_that_repeat_none(self):
        self.told([0, 1], turn_ring, [0, 1])
        self.told([0, 0, 0, 1], turn_ring, [0, 0, 0, 1])
        self.told([7, 6, 5, 4, 3, 2, 1, 0], turn_ring, [7, 6, 5, 4, 3, 2, 1, 0])

    def test_words_that_end_within_a_repetition(self):
        self.told([0, 1, 0], turn_ring, [0, 1, 0])
        self.told([1, 1, 0, 1], turn_ring, [1, 1, 0, 1])
        self.told([0, 1, 2, 0, 1], turn_ring, [0, 1, 2, 0, 1])
        self.told([0, 0, 1, 0, 0, 1, 0, 0], turn_ring, [0, 0, 1, 0, 0, 1, 0, 0])

    def test_on_it_stand_the_turns_each_once(self):
        for size in range(1, 9):
            for signs in itertools.product(range(2), repeat=size):
                word = list(signs)
                ring = turn_ring(word)
                self.assertEqual(word, ring * (size // len(ring)))
                standing = round_words(ring, size)
                different = sorted(set(tuple(turn) for turn in turns(word)))
                self.assertEqual(different, sorted(tuple(turn) for turn in standing))
                self.assertEqual(len(different), len(ring))

    def test_bad_words(self):
        for word in bad_pieces(9):
            self.refused("BadWord", turn_ring, word)
        self.refused("BadWord", turn_ring, [0, 1] * 5)


class Own(RingCase):
    def test_a_told_turn_is_not_the_ring(self):
        ring = [0, 1, 2]
        for told in (turned(ring, 0), least_turn(ring), turn_ring(ring), word_at(ring, 3, 0)):
            told.append(3)
            self.alike([0, 1, 2, 3], told)
            self.alike([0, 1, 2], ring)
        ring.append(4)
        self.alike([0, 1, 2, 4], turned(ring, 0))

    def test_what_is_told_stays_when_the_ring_changes(self):
        ring = [0, 1, 0]
        told = [turned(ring, 0), least_turn(ring), turn_ring(ring), words_on(ring, 2)]
        kept = repr(told)
        ring[0] = 5
        self.alike([[5, 1], [1, 0], [0, 5]], words_on(ring, 2))
        self.alike([0, 5, 1], least_turn(ring))
        self.assertEqual(kept, repr(told))

    def test_told_words_are_each_their_own(self):
        words = words_on([0, 0, 0], 2)
        words[0].append(1)
        self.alike([[0, 0, 1], [0, 0], [0, 0]], words)
        self.alike([[0, 0], [0, 0], [0, 0]], words_on([0, 0, 0], 2))

    def test_what_is_refused_stays_as_it_is(self):
        ring = [2, 0, True]
        self.refused("BadRing", least_turn, ring)
        self.alike([2, 0, True], ring)
        ring, word = [2, 0, 1], [1, 1]
        self.refused("NoWord", place_of, ring, word)
        self.refused("NoWord", turned, ring, 3)
        self.alike([2, 0, 1], ring)
        self.alike([1, 1], word)


if __name__ == "__main__":
    unittest.main()
