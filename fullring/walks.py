"""Walks from joint to joint through the words of a book: its least ring."""

from fullring.books import begin_of, end_of, lack, reached_from
from fullring.errors import NoRing


def can_go_on(word, left):
    """Tell whether behind a word one comes to all others of the words that are left."""
    others = [other for other in left if other != word]
    reached = reached_from(end_of(word), others)
    return all([begin_of(other) in reached for other in others])


def next_word(joint, left):
    """Tell the least of the words that are left, rising ones, with which to go on from a joint."""
    # A word behind which one does not come to all others would leave some of them out.
    # As each word so far was chosen like this, there always is one.
    return [word for word in left if begin_of(word) == joint and can_go_on(word, left)][0]


def ring_of(signs, size, book):
    """Tell the least ring of a book."""
    if lack(signs, size, book) is not None:
        raise NoRing("the book has no ring")
    left = sorted(book)
    joint = begin_of(left[0])
    ring = []
    while left:
        word = next_word(joint, left)
        left.remove(word)
        ring.append(word[0])
        joint = end_of(word)
    return ring
