"""Books: their joints, what they lack for a ring, and whether a ring is one of theirs."""

from fullring.errors import BadBook
from fullring.rings import check_ring_over, read_all
from fullring.words import check_size, is_row, many_words


def is_word(signs, size, thing):
    """Tell whether a thing, of any kind, is a word of the size over the signs."""
    return is_row(thing, size, signs) and len(thing) == size


def check_book(signs, size, book):
    """Refuse what is no book of words of the size over the signs."""
    # A list that is longer than all words together is not read: it has one twice.
    if type(book) != list or not 1 <= len(book) <= many_words(signs, size):
        raise BadBook("a book is a list of one or more words, each once")
    if not all([is_word(signs, size, word) for word in book]):
        raise BadBook("a book has words of one size over the signs")
    if len({tuple(word) for word in book}) < len(book):
        raise BadBook("the book has a word twice")


def begin_of(word):
    """Tell the joint with which a word begins, as a tuple."""
    return tuple(word[:-1])


def end_of(word):
    """Tell the joint with which a word ends, as a tuple."""
    return tuple(word[1:])


def joints_of(words):
    """Tell a rising list of all joints of words, as tuples."""
    return sorted({joint for word in words for joint in (begin_of(word), end_of(word))})


def steps_of(words):
    """Tell, for each joint with which words begin, the joints with which those end."""
    steps = {}
    for word in words:
        steps.setdefault(begin_of(word), []).append(end_of(word))
    return steps


def reached_from(joint, words):
    """Tell the joints to which one comes from a joint by words, that one too, as keys."""
    steps = steps_of(words)
    reached = {joint: True}
    waiting = [joint]
    while waiting:
        here = waiting.pop()
        for other in steps.get(here, []):
            if other not in reached:
                reached[other] = True
                waiting.append(other)
    return reached


def uneven_joints(book):
    """Tell a rising list of the joints at which a book is not even, as tuples."""
    begins = [begin_of(word) for word in book]
    ends = [end_of(word) for word in book]
    return [joint for joint in joints_of(book) if begins.count(joint) != ends.count(joint)]


def joints(signs, size, book):
    """Tell a rising list of all joints of a book's words."""
    check_size(signs, size)
    check_book(signs, size, book)
    return [list(joint) for joint in joints_of(book)]


def lack(signs, size, book):
    """Tell what a book lacks for a ring, or None if it has one."""
    check_size(signs, size)
    check_book(signs, size, book)
    uneven = uneven_joints(book)
    if uneven:
        return "uneven", list(uneven[0])
    reached = reached_from(begin_of(min(book)), book)
    if len(reached) < len(joints_of(book)):
        return "apart", [list(joint) for joint in sorted(reached)]
    return None


def is_ring_of(signs, size, book, ring):
    """Tell whether a ring is a ring of a book."""
    check_size(signs, size)
    check_book(signs, size, book)
    check_ring_over(signs, ring)
    # With as many places as words, each of which stands, no place is left for anything else.
    return sorted(read_all(ring, size)) == sorted(book)
