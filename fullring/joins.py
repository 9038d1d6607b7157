"""Rings made by joining others."""

from fullring.errors import BadRing, NoJoin
from fullring.rings import check_ring, check_ring_size, read_all, read_round
from fullring.words import MOST_WORDS


def check_rings(rings):
    """Refuse what is no list of one or more rings that have few enough signs together."""
    if type(rings) != list or not rings:
        raise BadRing("rings are a list of one or more of them")
    for ring in rings:
        check_ring(ring)
    if sum([len(ring) for ring in rings]) > MOST_WORDS:
        raise BadRing("the rings have more than 256 signs together")


def first_places(ring, many):
    """Tell, for each word of so many signs on a ring, as a tuple, its first place."""
    places = {}
    for place, word in enumerate(read_all(ring, many)):
        places.setdefault(tuple(word), place)
    return places


def joinable(size, ring, others):
    """Tell those of the other rings that can be joined to a ring, in their order."""
    # On each ring stands the word of no signs: for size 1 all of them can be.
    places = first_places(ring, size - 1)
    return [
        other
        for other in others
        if any([tuple(word) in places for word in read_all(other, size - 1)])
    ]


def put_in(size, ring, other):
    """Tell what a ring makes with another one that can be joined to it."""
    places = first_places(ring, size - 1)
    starts = first_places(other, size - 1)
    place, start = min([(places[word], starts[word]) for word in places if word in starts])
    return ring[:place] + read_round(other, len(other), start) + ring[place:]


def joined(size, one, other):
    """Tell the ring that two rings make."""
    return joined_all(size, [one, other])


def joined_all(size, rings):
    """Tell the ring that several rings make, joined one by one."""
    check_ring_size(size)
    check_rings(rings)
    ring = list(rings[0])
    left = rings[1:]
    while left:
        able = joinable(size, ring, left)
        if not able:
            raise NoJoin("none of the rings that are left can be joined")
        ring = put_in(size, ring, able[0])
        left.remove(able[0])
    return ring
