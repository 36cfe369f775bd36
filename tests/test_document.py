"""The examples of the document, point 3 and the interface, and those of README.md, each as it stands."""

import doctest
import pathlib
import re
import unittest

from plantrace import errors

ROOT = pathlib.Path(__file__).resolve().parent.parent
DOCUMENT = ROOT.parent / "shared" / "DOC.md"


def examples(path):
    """The examples of a file, the fences around them taken away."""
    text = re.sub("^```$", "", path.read_text(encoding="utf-8"), flags=re.MULTILINE)
    return doctest.DocTestParser().get_examples(text)


class ExamplesTest(unittest.TestCase):
    def run_all(self, path):
        """Runs the examples one behind another; names that one of them defines are there for the later ones."""
        names, found = {}, examples(path)
        for example in found:
            wanted = example.want.strip()
            with self.subTest(example.source, row=example.lineno + 1):
                if wanted.startswith("raises "):
                    self.raises(example.source, names, wanted.removeprefix("raises "))
                elif wanted:
                    self.assertEqual(repr(eval(example.source, names)), wanted)
                else:
                    exec(example.source, names)
        return len(found)

    def raises(self, source, names, wanted):
        """The error is written as `Name`, or as `Name(attribute=value, ..)`."""
        name, _, told = wanted.rstrip(")").partition("(")
        with self.assertRaises(getattr(errors, name)) as caught:
            eval(source, names)
        self.assertIs(type(caught.exception), getattr(errors, name))
        for attribute, number in re.findall(r"(\w+)=(\d+)", told):
            self.assertEqual(getattr(caught.exception, attribute), int(number))

    def test_the_readme(self):
        self.assertGreater(self.run_all(ROOT / "README.md"), 15)

    @unittest.skipUnless(DOCUMENT.exists(), "the document is not beside the project")
    def test_the_document(self):
        self.assertGreater(self.run_all(DOCUMENT), 150)


if __name__ == "__main__":
    unittest.main()
