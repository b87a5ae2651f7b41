"""All examples of the interface, as they stand in the document (examples.txt)."""

import unittest
from pathlib import Path

from ringstays.errors import InlineError

TEXT = (Path(__file__).resolve().parent / "examples.txt").read_text()


def told(error):
    return f"raises {type(error).__name__}({', '.join(map(repr, vars(error).values()))})"


def answer(row, names):
    """What a row of an example answers, as the document writes it, None if it tells nothing."""
    try:
        return repr(eval(row, names))
    except SyntaxError:
        exec(row, names)
    except InlineError as error:
        return told(error)


class Examples(unittest.TestCase):
    def test_examples(self):
        names, count = {}, 0
        lines = TEXT.splitlines()
        for at, line in enumerate(lines):
            if line.startswith("##"):
                names = {}
            elif line.startswith(">>> "):
                found = answer(line[4:], names)
                ahead = lines[at + 1] if at + 1 < len(lines) else "##"
                if ahead.startswith((">>> ", "##")):
                    self.assertIn(found, (None, "None"), line)
                else:
                    self.assertEqual(found, ahead, line)
                    count += 1
        self.assertGreater(count, 30)
