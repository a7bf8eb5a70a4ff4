"""Every example that the document prints, word for word, section by section."""

import importlib
import pathlib
import unittest

from tests.tools import shown
from threelanes.errors import LaneError

SECTIONS = (
    "checks", "papers", "webs", "faces", "check_webs", "fills", "makes", "layers", "doors", "check_doors", "pieces",
    "check_pieces", "seats", "check_seats", "bags", "peels", "words", "lines", "colourings", "check_colourings", "labels",
    "check_labels", "lots", "check_lots", "pictures", "desks",
)
FOLDER = pathlib.Path(__file__).parent / "examples"


def examples_in(text):
    """The pairs of what is asked and what is printed, None for nothing."""
    found = []
    for line in text.splitlines():
        if line.startswith(">>> "):
            found.append([line[4:], None])
        else:
            found[-1][1] = line
    return found


def answer(asked, names):
    """What a line that is asked prints."""
    try:
        try:
            return repr(eval(asked, names))
        except SyntaxError:
            exec(asked, names)
            return None
    except LaneError as error:
        return f"raises {shown(error)}"


def names_of(section):
    """The names that a module gives to whoever imports them."""
    module = importlib.import_module(f"threelanes.{section}")
    return {name: worth for name, worth in vars(module).items() if not name.startswith("_")}


class Examples(unittest.TestCase):
    def test_examples(self):
        names = {}
        for section in SECTIONS:
            # The examples leave imports out, also those from sections further on, and of names that were used otherwise.
            for other in SECTIONS:
                names.update(names_of(other))
            examples = examples_in((FOLDER / f"{section}.txt").read_text(encoding="utf-8"))
            self.assertTrue(examples)
            for asked, printed in examples:
                with self.subTest(section=section, asked=asked):
                    self.assertEqual(answer(asked, names), printed)


if __name__ == "__main__":
    unittest.main()
