"""What the tests share: things of many kinds, and checks of what is told and refused."""

import collections
import copy
import decimal
import fractions
import inspect
import itertools
import operator
import unittest

from fullring import errors

REFUSALS = ["BadSize", "BadWord", "BadBook", "BadRing", "NoWord", "NoRing", "NoJoin"]


def _fails(*told, **more):
    raise RuntimeError("a thing that was to be refused was asked")


class Hostile:
    """A thing that bears nothing to be done with it."""

    __eq__ = __ne__ = __lt__ = __le__ = __gt__ = __ge__ = _fails
    __len__ = __iter__ = __getitem__ = __contains__ = __bool__ = __hash__ = _fails
    __repr__ = __str__ = __format__ = __index__ = __int__ = __float__ = _fails
    __add__ = __radd__ = __sub__ = __rsub__ = __mul__ = __rmul__ = __mod__ = _fails
    __reversed__ = __neg__ = __abs__ = __call__ = _fails


def knotted():
    """A list that holds itself."""
    knot = []
    knot.append(knot)
    return knot


def odd_things():
    """Things that are neither whole numbers nor lists."""
    return [
        True, False, None, "", "1", "01", b"", b"\x00\x01", bytearray(b"\x01"),
        1.0, 2.0, 0.5, float("nan"), float("inf"), 1 + 0j, (), (1,), (0, 1), ([0, 1],),
        {}, {0: 1}, {1: 0}, set(), {1}, frozenset({1}), range(2), object(), int, list, len,
        lambda: 1, (sign for sign in [0, 1]), iter([0, 1]), Ellipsis, NotImplemented,
        fractions.Fraction(1), decimal.Decimal(1), collections.deque([0, 1]),
        collections.UserList([0, 1]), collections.Counter([0, 1]), Hostile(),
    ]


def no_wholes():
    """Things that are no whole numbers."""
    return odd_things() + [[], [1], [0, 1], [[1]], [Hostile()], knotted()]


def no_lists():
    """Things that are no lists."""
    return odd_things() + [0, 1, 8, -1, 10 ** 5000]


def far_numbers():
    """Whole numbers that are beyond each limit."""
    return [-1, -2, -256, 257, 10 ** 30, -10 ** 30, 10 ** 5000, -10 ** 5000]


def bad_signs():
    """Signs that are none, whatever the size."""
    return no_wholes() + far_numbers() + [0, 10, 256]


def bad_sizes():
    """Sizes that are none, whatever the signs."""
    return no_wholes() + far_numbers() + [0, 9, 256]


def bad_pieces(signs):
    """Things that are no words of any size over the signs."""
    rows = [[], [0] * 9, [0] * 300, [signs], [0, signs], [signs, 0], [0, signs, 0]]
    rows += [[number] for number in far_numbers()]
    rows += [[-1], [0, -1], [-signs, 0], [9], [0, 10]]
    rows += [[thing] for thing in no_wholes()]
    rows += [[0, thing, 0] for thing in no_wholes()]
    return rows + [knotted(), [[0, 0]]] + no_lists()


def bad_rings():
    """Things that are no rings."""
    rows = [[], [0] * 257, [8] * 300, [9], [0, 9], [9, 0], [0] * 255 + [9], [-1], [0, -1]]
    rows += [[0, 1, number] for number in far_numbers()]
    rows += [[thing] for thing in no_wholes()]
    rows += [[0, thing, 1] for thing in no_wholes()]
    return rows + [knotted(), [[0, 1]]] + no_lists()


def books_of(words):
    """All books that some of the words make."""
    return [
        list(some)
        for many in range(1, len(words) + 1)
        for some in itertools.combinations(words, many)
    ]


def orders_of(book):
    """A book in several orders."""
    return [book, book[::-1], book[len(book) // 2:] + book[:len(book) // 2], book[1::2] + book[::2]]


def words_round(ring, size):
    """The words on a ring, read off it once it is set often enough behind itself."""
    row = ring * (size + 1)
    return [row[place:place + size] for place in range(len(ring))]


def rings_by_trying(signs, size, most):
    """For each book of at most so many words that has rings, all of these, rising."""
    found = {}
    for many in range(1, most + 1):
        for ring in itertools.product(range(signs), repeat=many):
            words = {tuple(word) for word in words_round(list(ring), size)}
            if len(words) == many:
                found.setdefault(tuple(sorted(words)), []).append(list(ring))
    return found


def bad_words(signs, size):
    """Things that are no words of the size over the signs."""
    rows = bad_pieces(signs) + [[0] * (size - 1), [0] * (size + 1), (0,) * size, "0" * size]
    for bad in no_wholes() + far_numbers() + [signs, 9, 10]:
        for place in sorted({0, size // 2, size - 1}):
            rows.append([0] * place + [bad] + [0] * (size - 1 - place))
    return rows


def bad_books(signs, size, book):
    """Things that are no books, among them a book of several words with a fault in it."""
    half = len(book) // 2
    rows = no_lists() + [[], [0], [0] * size, knotted(), [book], [[]]]
    for bad in bad_words(signs, size):
        rows += [[bad], [bad] + book, book[:half] + [bad] + book[half:], book + [bad]]
    for word in (book[0], book[half], book[-1]):
        rows += [[list(word)] + book, book[:half] + [list(word)] + book[half:], book + [list(word)]]
        rows += [[word, word], book + [word]]
    return rows + [book + book, book * 300]


def shape(thing, seen=()):
    """What a thing is made of, so that a change of it shows."""
    kind = type(thing)
    if kind in (list, tuple):
        if id(thing) in seen:
            return "again"
        inner = (*seen, id(thing))
        return id(thing), [shape(item, inner) for item in thing]
    if inspect.isgenerator(thing):
        return id(thing), inspect.getgeneratorstate(thing)
    if kind is type(iter([])):
        return id(thing), operator.length_hint(thing)
    if kind in (dict, set, bytearray, collections.deque, collections.UserList):
        return id(thing), repr(thing)
    return id(thing)


def lists_in(thing):
    """All lists in a told thing, itself too."""
    if type(thing) not in (list, tuple):
        return []
    inner = [found for item in thing for found in lists_in(item)]
    return inner + [thing] if type(thing) is list else inner


def spoil(thing):
    """Change a list, and the lists in it or in a tuple, throughout."""
    if type(thing) in (list, tuple):
        for item in thing:
            spoil(item)
    if type(thing) is list:
        thing.reverse()
        thing.append("spoiled")
        thing.insert(0, "spoiled")


class RingCase(unittest.TestCase):
    """A test case with checks of what is told and of what is refused."""

    def alike(self, expected, told):
        """Check that a told thing is the expected one, True and 1 told apart."""
        self.assertEqual(repr(expected), repr(told))

    def told(self, expected, call, *args):
        """Check what is told, that it is the asker's own, and that args stay as they are."""
        expected = copy.deepcopy(expected)
        before = shape(args)
        first = call(*args)
        self.alike(expected, first)
        self.assertEqual(before, shape(args))
        second = call(*args)
        self.each_its_own(first)
        spoiled = copy.deepcopy(first)
        self.alike(expected, second)
        self.alike(expected, call(*args))
        self.alike(spoiled, first)
        self.assertEqual(before, shape(args))
        handed = copy.deepcopy(args)
        third = call(*handed)
        for thing in handed:
            spoil(thing)
        self.alike(expected, third)

    def each_its_own(self, told):
        """Spoil a told thing, and check that no list in it is in it twice."""
        inner = [id(item) for item in lists_in(told)]
        self.assertEqual(len(inner), len(set(inner)))
        spoil(told)

    def refused(self, name, call, *args):
        """Check that a call is refused with one class alone, and that args stay as they are."""
        before = shape(args)
        with self.assertRaises(errors.RingError) as held:
            call(*args)
        self.assertIsInstance(held.exception, ValueError)
        classes = [other for other in REFUSALS if isinstance(held.exception, getattr(errors, other))]
        self.assertEqual([name], classes)
        self.assertEqual(before, shape(args))
