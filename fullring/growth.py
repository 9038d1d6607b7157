"""Rings made by growing shorter ones."""

from fullring.books import is_ring_of
from fullring.errors import BadRing
from fullring.joins import joined_all
from fullring.rings import check_ring_over
from fullring.words import MOST_WORDS, all_words, check_signs, check_size


def lift_from(signs, ring, first):
    """Tell the list that begins with a sign and whose steps are a ring's signs."""
    row = []
    sign = first
    while not row or sign != first:
        # The beginning counts as come again only with the ring gone round.
        for step in ring:
            row.append(sign)
            sign = (sign + step) % signs
    return row


def lifted(signs, ring):
    """Tell a list of the lifted rings of a ring."""
    check_signs(signs)
    check_ring_over(signs, ring)
    if len(ring) * signs > MOST_WORDS:
        raise BadRing("the lifted rings would have more than 256 signs together")
    rings = []
    begun = []
    for sign in range(signs):
        if sign not in begun:
            row = lift_from(signs, ring, sign)
            begun.extend(row[::len(ring)])
            rings.append(row)
    return rings


def grown(signs, size, ring):
    """Tell the ring of all words of one sign more that a ring of all words of the size makes."""
    check_size(signs, size)
    check_size(signs, size + 1)
    if not is_ring_of(signs, size, all_words(signs, size), ring):
        raise BadRing("on the ring stand not all words of the size, each once")
    return joined_all(size + 1, lifted(signs, ring))
