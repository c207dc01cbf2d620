"""The examples of the document, as they stand there, and those of README.md."""

import doctest
import unittest
from pathlib import Path

FIELDS = """
>>> from oddscall.fields import divide, multiply, root_of, sign_of
>>> a = ((1, 1), (1, 1))
>>> multiply(2, a, a)
((3, 1), (2, 1))
>>> divide(2, ((1, 1), (0, 1)), a)
((-1, 1), (1, 1))
>>> sign_of(2, ((-3, 2), (1, 1)))
-1
>>> root_of(2, ((3, 1), (2, 1)))
((1, 1), (1, 1))
"""

NUMBERS = """
>>> from oddscall.numbers import compare_numbers, element_of, floor_of, number_of
>>> number_of(2, ((1, 1), (1, 1)))
('root', (-1, -2, 1), 1)
>>> element_of(("root", (-1, -2, 1), 1))
(8, ((1, 1), (1, 2)))
>>> compare_numbers(("root", (-2, 0, 1), 1), ("root", (-3, 0, 1), 1))
-1
>>> floor_of(("root", (-2, 0, 1), 1), 1000)
1414
"""

# Point 18, whose sentences are written here as calls.
POINT_18 = """
>>> from oddscall.fields import multiply, root_of
>>> from oddscall.numbers import number_of
>>> multiply(2, ((1, 1), (1, 1)), ((1, 1), (1, 1)))
((3, 1), (2, 1))
>>> root_of(2, ((3, 1), (2, 1)))
((1, 1), (1, 1))
>>> root_of(2, ((2, 1), (0, 1)))
((0, 1), (1, 1))
>>> root_of(3, ((2, 1), (0, 1))) is None
True
>>> number_of(2, ((1, 1), (1, 1)))
('root', (-1, -2, 1), 1)
"""


class ExamplesTest(unittest.TestCase):
    def check(self, text):
        names = {}
        for example in doctest.DocTestParser().get_examples(text):
            wanted = example.want.strip()
            if wanted == "":
                exec(example.source, names)
            elif wanted.startswith("raises "):
                with self.assertRaises(Exception) as caught:
                    eval(example.source, names)
                self.assertEqual(f"raises {caught.exception.__class__.__name__}", wanted, example.source)
            else:
                self.assertEqual(repr(eval(example.source, names)), wanted, example.source)

    def test_fields(self):
        self.check(FIELDS)

    def test_numbers(self):
        self.check(NUMBERS)
        self.check(POINT_18)

    def test_the_readme(self):
        text = (Path(__file__).resolve().parent.parent / "README.md").read_text(encoding="utf-8").replace("```", "")
        runner = doctest.DocTestRunner()
        runner.run(doctest.DocTestParser().get_doctest(text, {}, "README.md", "README.md", 0))
        self.assertGreater(runner.tries, 0)
        self.assertEqual(runner.failures, 0)


if __name__ == "__main__":
    unittest.main()
