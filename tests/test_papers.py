"""Papers: words, parts, truth, equality, and what is fixed."""

import unittest

from tests.tools import ANYTHING, as_lists, as_tuples
from threelanes.papers import Denial, Paper, fixed


class Note(Paper):
    def __init__(self, text):
        Paper.__init__(self, "note", text)
        self.text = self.parts[0]


def nest(depth, make):
    """A list within a list, so many deep."""
    value = make(["x"])
    for _ in range(depth - 1):
        value = make([value])
    return value


class Papers(unittest.TestCase):
    def test_word_and_parts(self):
        note = Paper("note", 1, [2, [3]], (4, [5]))
        self.assertEqual((note.word, note.parts), ("note", (1, (2, (3,)), (4, (5,)))))
        self.assertEqual(Paper("note").parts, ())
        self.assertEqual(Denial("no", [1]).parts, ((1,),))
        self.assertEqual(Paper(word="note").word, "note")
        self.assertEqual(Denial(word="no").word, "no")

    def test_truth(self):
        self.assertIs(bool(Paper("note")), True)
        self.assertIs(bool(Paper("")), True)
        self.assertIs(bool(Note(0)), True)
        self.assertIs(bool(Denial("no")), False)
        self.assertIs(bool(Denial("no", 1, 2)), False)

    def test_any_parts(self):
        for value in ANYTHING:
            kept = Paper("note", value).parts[0]
            if isinstance(value, (list, tuple)):
                self.assertEqual(kept, as_tuples(value))
            else:
                self.assertIs(kept, value)

    def test_parts_are_copied(self):
        inner = [1]
        outer = [inner, (inner,)]
        note = Paper("note", outer)
        inner.append(2)
        outer.append(3)
        self.assertEqual(note.parts, (((1,), ((1,),)),))

    def test_equality(self):
        self.assertTrue(Paper("note", [1, (2,)]) == Paper("note", (1, [2])))
        self.assertFalse(Paper("note", [1, (2,)]) != Paper("note", (1, [2])))
        self.assertTrue(Paper("note", 1) == Paper("note", True))
        for other in (Paper("note", 2), Paper("note"), Paper("note", 1, 1), Paper("other", 1), Denial("note", 1)):
            self.assertFalse(Paper("note", 1) == other)
            self.assertTrue(Paper("note", 1) != other)
        self.assertTrue(Denial("no", [1]) == Denial("no", (1,)))
        self.assertFalse(Denial("no", [1]) == Denial("no", [2]))
        self.assertFalse(Denial("no") == Denial("none"))

    def test_a_plain_paper_is_none_of_a_class(self):
        self.assertEqual(Note([1]), Note((1,)))
        self.assertNotEqual(Note([1]), Note([2]))
        self.assertEqual((Note(1).word, Note(1).parts), (Paper("note", 1).word, Paper("note", 1).parts))
        self.assertIs(Note(1) == Paper("note", 1), False)
        self.assertIs(Paper("note", 1) == Note(1), False)
        self.assertIs(Denial("note", 1) == Note(1), False)

    def test_equality_with_a_class_of_the_same_name(self):
        kept = {"__init__": lambda self: None, "word": "note", "parts": (1,)}
        for made in (Paper("note", 1), Denial("note", 1)):
            self.assertIs(made == type(type(made).__name__, (), kept)(), False)

    def test_equality_with_other_values(self):
        for value in ANYTHING + [("note", (1,)), "note"]:
            self.assertIs(Paper("note", 1) == value, False)
            self.assertIs(Denial("note", 1) == value, False)

    def test_fixed(self):
        self.assertEqual(fixed([]), ())
        self.assertEqual(fixed([1, [2, (3, [4])], ()]), (1, (2, (3, (4,))), ()))
        table = {"a": [1]}
        self.assertIs(fixed([table])[0], table)
        self.assertEqual(table, {"a": [1]})
        self.assertEqual(fixed("[1]"), "[1]")
        self.assertEqual(fixed(value=[1]), (1,))

    def test_fixed_at_the_greatest_depth(self):
        for make in (list, tuple):
            value = nest(30, make)
            self.assertEqual(fixed(value), nest(30, tuple))
            self.assertEqual(Paper("note", value), Paper("note", as_lists(value)))

    def test_classes(self):
        self.assertEqual(Paper.__bases__, (object,))
        self.assertEqual(Denial.__bases__, (Paper,))


if __name__ == "__main__":
    unittest.main()
