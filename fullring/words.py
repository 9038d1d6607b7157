"""Words over signs: their order, their numbers and the pieces in them."""

from fullring.errors import BadSize, BadWord

MOST_SIGNS = 9
MOST_SIZE = 8
MOST_WORDS = 256


def is_whole(thing, low, high):
    """Tell whether a thing, of any kind, is a whole number from low to high."""
    # Not isinstance: it would let True and False by.
    return type(thing) == int and low <= thing <= high


def is_row(thing, most, signs):
    """Tell whether a thing, of any kind, is a list of 1 to so many of the signs."""
    if type(thing) != list or not 1 <= len(thing) <= most:
        return False
    return all([is_whole(sign, 0, signs - 1) for sign in thing])


def many_words(signs, size):
    """Tell how many words of the size there are over the signs."""
    many = 1
    for _ in range(size):
        many = many * signs
    return many


def check_signs(signs):
    """Refuse signs that are none."""
    # Messages never show what was handed in: not every thing can be shown.
    if not is_whole(signs, 1, MOST_SIGNS):
        raise BadSize("there are 1 to 9 signs")


def check_size(signs, size):
    """Refuse signs and a size that do not go together, or are none."""
    check_signs(signs)
    if not is_whole(size, 1, MOST_SIZE):
        raise BadSize("a size is a whole number from 1 to 8")
    if many_words(signs, size) > MOST_WORDS:
        raise BadSize("there are more than 256 words of this size over these signs")


def check_piece(signs, piece):
    """Refuse what is no word over the signs, of whatever size."""
    if not is_row(piece, MOST_SIZE, signs):
        raise BadWord("a word is a list of 1 to 8 of the signs")


def check_pieces(signs, pieces):
    """Refuse what is no list of words over the signs."""
    if type(pieces) != list:
        raise BadWord("pieces are a list of words")
    for piece in pieces:
        check_piece(signs, piece)


def check_word(signs, size, word):
    """Refuse what is no word of the size over the signs."""
    check_piece(signs, word)
    if len(word) != size:
        raise BadWord("the word is of another size")


def check_number(signs, size, number):
    """Refuse what is the number of no word of the size over the signs."""
    if not is_whole(number, 0, many_words(signs, size) - 1):
        raise BadWord("there is no word of this number")


def stands_in(piece, word):
    """Tell whether a piece stands in a word."""
    last = len(word) - len(piece)
    return any([word[at:at + len(piece)] == piece for at in range(last + 1)])


def is_free(word, pieces):
    """Tell whether none of the pieces stands in a word."""
    return not any([stands_in(piece, word) for piece in pieces])


def all_words(signs, size):
    """Tell a rising list of all words of the size over the signs."""
    check_size(signs, size)
    return [word_of(signs, size, number) for number in range(many_words(signs, size))]


def number_of(signs, size, word):
    """Tell how many words of the size stand ahead of a word."""
    check_size(signs, size)
    check_word(signs, size, word)
    number = 0
    for sign in word:
        number = number * signs + sign
    return number


def word_of(signs, size, number):
    """Tell the word ahead of which stand so many words of the size."""
    check_size(signs, size)
    check_number(signs, size, number)
    word = []
    left = number
    for _ in range(size):
        word.append(left % signs)
        left = left // signs
    word.reverse()
    return word


def free_of(signs, size, pieces):
    """Tell a rising list of all words of the size in which none of the pieces stands."""
    check_size(signs, size)
    check_pieces(signs, pieces)
    return [word for word in all_words(signs, size) if is_free(word, pieces)]
