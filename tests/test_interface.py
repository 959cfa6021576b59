"""The interface: what is handed in, what is given back, and that nothing else is done."""

import ast
import contextlib
import inspect
import io
import pathlib
import unittest

import threetimes.places
from tests.helper import FOURTEEN, LARGEST, WIDTHS, flat, run
from threetimes.places import answers

PACKAGE = pathlib.Path(threetimes.places.__file__).parent
SOURCES = sorted(PACKAGE.glob("*.py"))

SOME = flat([
    ("lines",), ("begin", 0), ("begin", 6), ("line", 4, 1, 7), ("line", 1, 2, 3), ("turn", 4), ("lines",),
    ("chosen",), ("nearest", 2), ("near", 2), ("nearest", 0), ("cut", 0), ("greedy", 2), ("best",),
    ("dist", 1, 4), ("dist", 0, 1), ("told", 4, 1), ("told", 0, 1), ("knows", 1), ("all",), ("ifchosen", 3),
    ("first", 1, 2), ("worst",), ("leastall",), ("back",), ("state",), ("choose", 63), ("back",), ("back",),
])


class HandedInAndGivenBack(unittest.TestCase):
    def test_its_name_and_argument(self):
        self.assertEqual(list(inspect.signature(threetimes.places.answers).parameters), ["calls"])

    def test_by_the_numbers_of_the_document(self):
        self.assertEqual(answers([0, 3]), [1, 0])
        self.assertEqual(answers([0, 3, 1, 2, 0, 5]), [1, 0, 1, 5])
        self.assertEqual(answers([0, 3, 1, 2, 0, 5, 7]), [1, 0, 1, 5, 4, 1, 0, 2, 5])
        self.assertEqual(answers([0, 3, 1, 2, 0, 5, 2, 0, 7]), [1, 0, 1, 5, 1, 3, 1, 0])
        self.assertEqual(answers([0, 3, 3, 5, 8]), [1, 0, 1, 7, 3, 2, 0, 2])
        self.assertEqual(answers([0, 3, 4, 1, 8]), [1, 0, 1, 5, 2, 1, 1])
        self.assertEqual(answers([0, 3, 5, 1, 8]), [1, 0, 1, 9, 4, 3, 0, 1, 2])
        self.assertEqual(answers([0, 3, 4, 1, 6, 8]), [1, 0, 1, 5, 1, 3, 1, 0])
        self.assertEqual(answers([0, 3, 4, 1, 9, 1, 9, 0]), [1, 0, 1, 5, 2, 1, 0, 1, -33])
        self.assertEqual(answers([0, 3, 4, 1, 10, 1, 10, 0]), [1, 0, 1, 5, 1, 0, 2, 1, 0])

    def test_by_the_numbers_of_the_document_from_11_to_20(self):
        self.assertEqual(answers([0, 3, 1, 2, 0, 5, 11, 0, 2]), [1, 0, 1, 5, 1, 5])
        self.assertEqual(answers([0, 3, 1, 2, 0, 5, 12, 2, 0]), [1, 0, 1, 5, 1, 5])
        self.assertEqual(answers([0, 3, 1, 2, 0, 5, 13, 2]), [1, 0, 1, 5, 1, 2])
        self.assertEqual(answers([0, 3, 1, 2, 0, 5, 14]), [1, 0, 1, 5, 1, 5])
        self.assertEqual(answers([0, 3, 1, 2, 0, 5, 15, 7]), [1, 0, 1, 5, 1, 9])
        self.assertEqual(answers([0, 3, 1, 2, 0, 5, 16, 2, 8]), [1, 0, 1, 5, 3, 2, 2, 0])
        self.assertEqual(answers([0, 3, 1, 2, 0, 5, 17]), [1, 0, 1, 5, 5, 0, 0, 2, 5, 5])
        self.assertEqual(answers([0, 3, 1, 2, 0, 5, 18]), [1, 0, 1, 5, 2, 5, 0])
        self.assertEqual(answers([0, 3, 1, 2, 0, 5, 19, 7]), [1, 0, 1, 5, 1, 0, 1, 0])
        self.assertEqual(answers([0, 3, 1, 2, 0, 5, 20]), [1, 0, 1, 5, 4, 3, 1, 0, 1])

    def test_a_refusal_is_its_number_alone(self):
        self.assertEqual(answers([7, 8, 9, 0, 10, 0]), [1, -11] * 4)
        self.assertEqual(answers([16, 0, 1, 17, 18, 19, 20]), [1, -11] * 5)
        self.assertEqual(answers([0, 7, 16, 7, 1, 16, 0, 0, 17, 18, 19]), [1, 0, 1, -2, 1, -22, 1, -33, 1, -28, 1, -6])
        self.assertEqual(answers([0, 1, 9, 0, 9, 1, 10, 1]), [1, 0, 1, -33, 1, -2, 1, -2])

    def test_no_lists_are_as_many_numbers_as_told(self):
        self.assertEqual(answers([0, 1, 7, 8]), [1, 0, 1, 0, 1, 0])

    def test_whole_numbers_in_a_list(self):
        given = answers(SOME)
        self.assertIs(type(given), list)
        for number in given:
            self.assertIs(type(number), int)

    def test_the_largest_number_as_any_argument(self):
        self.assertEqual(
            run(("begin", 8), ("line", LARGEST, LARGEST, LARGEST), ("line", 0, 1, LARGEST), ("cut", LARGEST),
                ("choose", LARGEST), ("turn", LARGEST), ("greedy", LARGEST), ("nearest", LARGEST),
                ("near", LARGEST), ("begin", LARGEST)),
            [[0], [-2], [-22], [-2], [-22], [-2], [-22], [-2], [-2], [-22]])
        self.assertEqual(
            run(("begin", 8), ("dist", LARGEST, 0), ("dist", 0, LARGEST), ("told", LARGEST, 0), ("told", 0, LARGEST),
                ("knows", LARGEST), ("ifchosen", LARGEST), ("first", LARGEST, 1), ("first", 0, LARGEST),
                ("first", LARGEST, LARGEST), ("state",)),
            [[0], [-2], [-2], [-2], [-2], [-2], [-22], [-2], [-22], [-2], [8, 0, 0, 0]])

    def test_256_calls(self):
        calls = [("begin", 8)] + [("line", a, b, 9) for a, b in FOURTEEN] + [("lines",)] * 241
        parts = run(*calls)
        self.assertEqual(len(parts), 256)
        self.assertEqual(parts[-1], [14] + [number for a, b in FOURTEEN for number in (a, b, 9)])

    def test_256_calls_of_each_kind(self):
        for name, width in WIDTHS.items():
            call = (name,) + (1,) * width
            self.assertEqual(len(run(("begin", 6), *[call] * 255)), 256)

    def test_1024_numbers(self):
        self.assertEqual(answers([1, 0, 1, 9] * 256), [1, -11] * 256)
        self.assertEqual(answers([0, 2] + [1, 0, 1, 9] * 255), [1, 0] + [1, 4] * 255)


class NothingElse(unittest.TestCase):
    def test_the_list_is_the_same_afterwards(self):
        handed_in = list(SOME)
        answers(handed_in)
        self.assertEqual(handed_in, SOME)

    def test_the_list_is_never_written(self):
        class Guarded(list):
            def refuse(self, *values):
                raise AssertionError("the list that is handed in is changed")

            __setitem__ = __delitem__ = __iadd__ = __imul__ = refuse
            append = extend = insert = pop = remove = clear = sort = reverse = refuse

        self.assertEqual(answers(Guarded(SOME)), answers(SOME))

    def test_the_same_list_gives_the_same(self):
        first = answers(SOME)
        self.assertEqual(answers(SOME), first)
        answers([0, 8, 3, 255, 1, 0, 7, 99])
        self.assertEqual(answers(SOME), first)

    def test_what_is_given_back_is_not_kept(self):
        first = answers(SOME)
        kept = list(first)
        first.clear()
        self.assertEqual(answers(SOME), kept)

    def test_nothing_is_kept_of_a_begin(self):
        answers([0, 8])
        self.assertEqual(answers([7]), [1, -11])

    def test_nothing_is_printed(self):
        printed = io.StringIO()
        with contextlib.redirect_stdout(printed), contextlib.redirect_stderr(printed):
            answers(SOME)
        self.assertEqual(printed.getvalue(), "")

    def test_nothing_is_imported_or_read(self):
        for source in SOURCES:
            for node in ast.walk(ast.parse(source.read_text())):
                self.assertNotIsInstance(node, (ast.Import, ast.ImportFrom), source.name)
                if isinstance(node, ast.Name):
                    self.assertNotIn(node.id, ("open", "input", "print", "eval", "exec", "__import__"))


class ThePackage(unittest.TestCase):
    def test_it_holds_sources_alone(self):
        names = [path.name for path in PACKAGE.iterdir() if path.name != "__pycache__"]
        self.assertEqual(sorted(names), ["__init__.py", "places.py"])

    def test_sizes_and_signs(self):
        for source in SOURCES:
            text = source.read_text(encoding="utf-8")
            rows = text.split("\n")
            self.assertLessEqual(len(rows), 400)
            for row in rows:
                self.assertLessEqual(len(row), 120)
            self.assertTrue(all(sign == "\n" or " " <= sign <= "~" for sign in text))
            for node in ast.walk(ast.parse(text)):
                if isinstance(node, ast.FunctionDef):
                    self.assertLessEqual(node.end_lineno - node.lineno + 1, 40, node.name)


if __name__ == "__main__":
    unittest.main()
