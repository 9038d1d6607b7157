"""[1] and [15] over the whole program: the interface, what may be used, and the order of refusals."""

import ast
import importlib
import inspect
import itertools
import pathlib
import unittest

from tests.helping import (
    REFUSALS, RingCase, far_numbers, knotted, no_lists, no_wholes, odd_things,
)

FOLDER = pathlib.Path(__file__).resolve().parent.parent / "fullring"

BOOK = [[0, 1], [1, 1], [1, 0]]
RING = [0, 0, 1, 1]

# Each function of the interface: its arguments, good ones of them, what is told of these, and
# with what each argument is refused.
FUNCTIONS = {
    ("words", "all_words"): (
        {"signs": 2, "size": 1}, [[0], [1]], ["BadSize", "BadSize"],
    ),
    ("words", "number_of"): (
        {"signs": 2, "size": 3, "word": [1, 0, 1]}, 5, ["BadSize", "BadSize", "BadWord"],
    ),
    ("words", "word_of"): (
        {"signs": 2, "size": 3, "number": 1}, [0, 0, 1], ["BadSize", "BadSize", "BadWord"],
    ),
    ("words", "free_of"): (
        {"signs": 2, "size": 2, "pieces": [[1, 1], [0, 1]]}, [[0, 0], [1, 0]],
        ["BadSize", "BadSize", "BadWord"],
    ),
    ("rings", "word_at"): (
        {"ring": RING, "size": 2, "place": 3}, [1, 0], ["BadRing", "BadSize", "NoWord"],
    ),
    ("rings", "words_on"): (
        {"ring": RING, "size": 2}, [[0, 0], [0, 1], [1, 1], [1, 0]], ["BadRing", "BadSize"],
    ),
    ("rings", "place_of"): (
        {"ring": RING, "word": [1, 1, 0]}, 2, ["BadRing", "BadWord"],
    ),
    ("rings", "turned"): (
        {"ring": RING, "place": 1}, [0, 1, 1, 0], ["BadRing", "NoWord"],
    ),
    ("rings", "least_turn"): (
        {"ring": [1, 0, 1, 0]}, [0, 1, 0, 1], ["BadRing"],
    ),
    ("rings", "turn_ring"): (
        {"word": [1, 0, 1, 0]}, [1, 0], ["BadWord"],
    ),
    ("books", "joints"): (
        {"signs": 2, "size": 2, "book": BOOK}, [[0], [1]], ["BadSize", "BadSize", "BadBook"],
    ),
    ("books", "lack"): (
        {"signs": 2, "size": 2, "book": [[1, 1], [0, 0]]}, ("apart", [[0]]),
        ["BadSize", "BadSize", "BadBook"],
    ),
    ("books", "is_ring_of"): (
        {"signs": 2, "size": 2, "book": BOOK, "ring": [1, 1, 0]}, True,
        ["BadSize", "BadSize", "BadBook", "BadRing"],
    ),
    ("walks", "ring_of"): (
        {"signs": 2, "size": 2, "book": BOOK}, [0, 1, 1], ["BadSize", "BadSize", "BadBook"],
    ),
    ("counts", "many_rings"): (
        {"signs": 2, "size": 2, "book": BOOK}, 1, ["BadSize", "BadSize", "BadBook"],
    ),
    ("joins", "joined"): (
        {"size": 2, "one": [0, 1], "other": [1, 2]}, [0, 1, 2, 1],
        ["BadSize", "BadRing", "BadRing"],
    ),
    ("joins", "joined_all"): (
        {"size": 2, "rings": [[0, 1], [1, 2]]}, [0, 1, 2, 1], ["BadSize", "BadRing"],
    ),
    ("growth", "lifted"): (
        {"signs": 2, "ring": RING}, [[0, 0, 0, 1], [1, 1, 1, 0]], ["BadSize", "BadRing"],
    ),
    ("growth", "grown"): (
        {"signs": 2, "size": 1, "ring": [0, 1]}, [0, 0, 1, 1], ["BadSize", "BadSize", "BadRing"],
    ),
    ("pieces", "pieces"): (
        {"signs": 2, "size": 2}, [[0], [0, 1], [1]], ["BadSize", "BadSize"],
    ),
    ("pieces", "least_full"): (
        {"signs": 2, "size": 2}, [0, 0, 1, 1], ["BadSize", "BadSize"],
    ),
}


def call_named(file, name):
    """A function of the interface."""
    return getattr(importlib.import_module("fullring." + file), name)


def bad_things(good):
    """Things that are none of the kind of a good argument, whatever the other ones are."""
    if type(good) is int:
        return no_wholes() + far_numbers()
    rows = [[thing] for thing in odd_things()] + [[[thing]] for thing in odd_things()]
    return no_lists() + rows + [knotted(), [[]], [-1], [[0, -1]], [[[0, 1]]]]


def defined_in(file, kind):
    """The names that a file of the package defines itself, at its top."""
    tree = ast.parse((FOLDER / (file + ".py")).read_text(encoding="utf-8"))
    return [node.name for node in tree.body if isinstance(node, kind)]


class Interface(unittest.TestCase):
    def test_each_function_is_defined_in_its_file(self):
        for file, name in FUNCTIONS:
            self.assertEqual(1, defined_in(file, ast.FunctionDef).count(name))
            self.assertEqual("fullring." + file, call_named(file, name).__module__)

    def test_each_class_is_defined_in_its_file(self):
        self.assertEqual(["RingError"] + REFUSALS, defined_in("errors", ast.ClassDef))

    def test_arguments(self):
        for (file, name), (good, _, _) in FUNCTIONS.items():
            self.assertEqual(list(good), list(inspect.signature(call_named(file, name)).parameters))

    def test_numbers(self):
        words = importlib.import_module("fullring.words")
        self.assertEqual((9, 8, 256), (words.MOST_SIGNS, words.MOST_SIZE, words.MOST_WORDS))

    def test_no_clock_no_chance_and_no_files(self):
        for path in FOLDER.rglob("*.py"):
            tree = ast.parse(path.read_text(encoding="utf-8"))
            imports = [node for node in ast.walk(tree) if isinstance(node, (ast.Import, ast.ImportFrom))]
            for node in imports:
                self.assertIsInstance(node, ast.ImportFrom)
                self.assertTrue(node.module == "math" or node.module.startswith("fullring."), node.module)
            names = {node.id for node in ast.walk(tree) if isinstance(node, ast.Name)}
            self.assertEqual(set(), names & {"open", "input", "print", "exec", "eval", "__import__"})


class Told(RingCase):
    def test_what_is_told_is_the_askers_own(self):
        for (file, name), (good, expected, _) in FUNCTIONS.items():
            with self.subTest(name=name):
                self.told(expected, call_named(file, name), *good.values())

    def test_arguments_by_their_names(self):
        for (file, name), (good, expected, _) in FUNCTIONS.items():
            with self.subTest(name=name):
                turned_about = dict(reversed(good.items()))
                self.alike(expected, call_named(file, name)(**turned_about))

    def test_nothing_asked_later_changes_it(self):
        told = {
            key: call_named(*key)(*good.values()) for key, (good, _, _) in FUNCTIONS.items()
        }
        for key, (good, _, _) in reversed(FUNCTIONS.items()):
            call_named(*key)(*good.values())
        for key, (_, expected, _) in FUNCTIONS.items():
            self.alike(expected, told[key])


class Refusals(RingCase):
    def test_things_of_any_kind(self):
        for (file, name), (good, _, refusals) in FUNCTIONS.items():
            call = call_named(file, name)
            for at, (argument, refusal) in enumerate(zip(good, refusals)):
                for bad in bad_things(good[argument]):
                    args = list(good.values())
                    args[at] = bad
                    with self.subTest(name=name, argument=argument):
                        self.refused(refusal, call, *args)

    def test_several_faults_at_once(self):
        for (file, name), (good, _, refusals) in FUNCTIONS.items():
            call = call_named(file, name)
            for many in range(1, len(good) + 1):
                for faults in itertools.combinations(range(len(good)), many):
                    first = min([REFUSALS.index(refusals[at]) for at in faults])
                    for bad in (None, True, -1, (), "", 1.0):
                        args = list(good.values())
                        for at in faults:
                            args[at] = bad
                        with self.subTest(name=name, faults=faults):
                            self.refused(REFUSALS[first], call, *args)


if __name__ == "__main__":
    unittest.main()
