"""Papers and denials of every class: their words, their parts, and which of them are equal."""

import importlib
import inspect
import unittest

from tests.slow import bent
from tests.test_language import sources
from tests.test_papers import nest
from tests.tools import ANYTHING, as_lists, as_tuples
from threelanes.papers import Denial, Paper

# For each module its classes of papers, with their parts; those of denials begin with a minus.
CLASSES = {
    "faces": {"Flat": "places ties faces", "-Apart": "places", "-Handles": "count"},
    "doors": {"Met": "face doors", "-Round": "doors"},
    "pieces": {"Cut": "face legs rims", "Parted": "pieces bags above"},
    "seats": {"Seats": "seats bags above"},
    "peels": {"Peeled": "order", "Middle": "at"},
    "lines": {"Calm": "", "-Stray": "walk"},
    "check_colourings": {"Sound": "", "-Echo": "walk", "Free": "most", "-Repeat": "way"},
    "lots": {"Best": "lot", "Shares": "lots", "Parting": "lot"},
}


def all_classes():
    """All classes of papers, each with the names of its parts and whether it is true."""
    for module, names in CLASSES.items():
        for name, parts in names.items():
            made = getattr(importlib.import_module(f"threelanes.{module}"), name.removeprefix("-"))
            yield made, parts.split(), not name.startswith("-")


class Papers(unittest.TestCase):
    def test_no_other_classes(self):
        told = {made.__name__ for made, _, _ in all_classes()}
        found = set()
        for module in sources():
            worth = vars(importlib.import_module(f"threelanes.{module}" if module != "__init__" else "threelanes"))
            found |= {name for name, made in worth.items() if inspect.isclass(made) and issubclass(made, Paper)}
        self.assertEqual(found, told | {"Paper", "Denial"})

    def test_words_and_parts_by_place_and_by_name(self):
        for made, names, true in all_classes():
            self.assertEqual(made.__bases__, (Paper if true else Denial,))
            values = [[at, [at + 1, (at + 2, [])]] for at in range(len(names))]
            for paper in (made(*values), made(**dict(zip(names, values))), made(*as_tuples(values))):
                self.assertEqual(paper.word, made.__name__.lower())
                self.assertEqual(paper.parts, as_tuples(values))
                self.assertEqual([getattr(paper, name) for name in names], list(as_tuples(values)))
                self.assertIs(bool(paper), true)
                self.assertEqual(paper, made(*values))

    def test_any_parts(self):
        for made, names, _ in all_classes():
            for value in ANYTHING:
                paper = made(*[value for _ in names])
                for kept in (*paper.parts, *[getattr(paper, name) for name in names]):
                    if isinstance(value, (list, tuple)):
                        self.assertEqual(repr(kept), repr(as_tuples(value)))
                    else:
                        self.assertIs(kept, value)

    def test_parts_nested_deep(self):
        for made, names, _ in all_classes():
            lists = [nest(30, list) for _ in names]
            tuples = [nest(30, tuple) for _ in names]
            self.assertEqual(made(*lists), made(*tuples))
            self.assertEqual(made(*lists).parts, tuple(tuples))
            self.assertEqual([getattr(made(*lists), name) for name in names], tuples)

    def test_parts_are_copied(self):
        for made, names, _ in all_classes():
            inner = [1]
            values = [[inner] for _ in names]
            paper = made(*values)
            inner.append(2)
            self.assertEqual(paper.parts, tuple(((1,),) for _ in names))

    def test_papers_of_unlike_classes(self):
        papers = [made(*[[1, 2] for _ in names]) for made, names, _ in all_classes()]
        others = [Paper(paper.word, *paper.parts) for paper in papers] + [Denial(paper.word, *paper.parts) for paper in papers]
        for at, paper in enumerate(papers):
            for other in papers[:at] + papers[at + 1:] + others + [paper.parts, paper.word, None]:
                self.assertIs(paper == other, False)
                self.assertIs(other == paper, False)
                self.assertIs(paper != other, True)

    def test_parts_that_are_unlike(self):
        for made, names, _ in all_classes():
            values = [(at, (at + 1, at + 5)) for at in range(len(names))]
            for at, value in enumerate(values):
                for other in bent(value):
                    told = values[:at] + [other] + values[at + 1:]
                    self.assertIs(made(*values) == made(*told), as_tuples(values) == as_tuples(told), other)
                    self.assertIs(made(*as_lists(values)) == made(*told), as_tuples(values) == as_tuples(told))


if __name__ == "__main__":
    unittest.main()
