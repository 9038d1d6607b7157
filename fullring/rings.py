"""Rings, read round: the words at their places, and their turns."""

from fullring.errors import BadRing, BadSize, NoWord
from fullring.words import MOST_SIGNS, MOST_SIZE, MOST_WORDS, check_piece, is_row, is_whole


def check_ring_size(size):
    """Refuse what is no size of words on a ring."""
    # On a ring every size is let by, however many words of it there are.
    if not is_whole(size, 1, MOST_SIZE):
        raise BadSize("a size is a whole number from 1 to 8")


def check_ring_over(signs, ring):
    """Refuse what is no ring over so many signs."""
    if not is_row(ring, MOST_WORDS, signs):
        raise BadRing("a ring is a list of 1 to 256 of the signs")


def check_ring(ring):
    """Refuse what is no ring."""
    check_ring_over(MOST_SIGNS, ring)


def check_place(ring, place):
    """Refuse what is no place of a ring."""
    if not is_whole(place, 0, len(ring) - 1):
        raise NoWord("the ring has no such place")


def read_round(ring, many, place):
    """Tell so many signs of a ring from a place on, round and round if need be."""
    return [ring[(place + step) % len(ring)] for step in range(many)]


def read_all(ring, many):
    """Tell so many signs of a ring from each of its places on, in order."""
    return [read_round(ring, many, place) for place in range(len(ring))]


def word_at(ring, size, place):
    """Tell the word of the size that stands at a place of a ring."""
    check_ring_size(size)
    check_ring(ring)
    check_place(ring, place)
    return read_round(ring, size, place)


def words_on(ring, size):
    """Tell the words of the size at all places of a ring, in order."""
    check_ring_size(size)
    check_ring(ring)
    return read_all(ring, size)


def place_of(ring, word):
    """Tell the first place of a ring at which a word of 9 signs stands."""
    check_piece(MOST_SIGNS, word)
    check_ring(ring)
    standing = read_all(ring, len(word))
    if word not in standing:
        raise NoWord("the word does not stand on the ring")
    return standing.index(word)


def turned(ring, place):
    """Tell the list of the ring's signs that begins at a place."""
    check_ring(ring)
    check_place(ring, place)
    return read_round(ring, len(ring), place)


def least_turn(ring):
    """Tell the least of the lists that a ring makes when it is turned."""
    check_ring(ring)
    return min(read_all(ring, len(ring)))


def turn_ring(word):
    """Tell the shortest list that makes a word of 9 signs when it is repeated."""
    check_piece(MOST_SIGNS, word)
    # Only a length that divides the word's fills it: else the product is too short.
    lengths = [
        many
        for many in range(1, len(word) + 1)
        if word[:many] * (len(word) // many) == word
    ]
    return word[:lengths[0]]
