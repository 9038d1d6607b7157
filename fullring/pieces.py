"""Falling pieces, and the least ring of all words that they make."""

from fullring.words import all_words, check_size


def is_falling(word):
    """Tell whether a word is less than each other turn of it, none being alike."""
    return all([word < word[at:] + word[:at] for at in range(1, len(word))])


def pieces(signs, size):
    """Tell a rising list of the falling pieces of signs and a size."""
    check_size(signs, size)
    return sorted([
        word
        for many in range(1, size + 1)
        if size % many == 0
        for word in all_words(signs, many)
        if is_falling(word)
    ])


def least_full(signs, size):
    """Tell the least ring of the book of all words of the size."""
    # The pieces, one behind the other, have as many signs as there are words of the size.
    return [sign for piece in pieces(signs, size) for sign in piece]
