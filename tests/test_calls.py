"""What holds of every call: long texts, nothing changed, nothing kept, nothing printed or imported."""
import ast
import contextlib
import io
import pathlib
import unittest

import brewrecipes
from brewrecipes.recipes import judge, like, line, malt, scale, sizes, tells
from tests.helper import CALLS, PLAIN, Unchangeable, coded, recipe_of, text_of

PACKAGE = pathlib.Path(brewrecipes.__file__).parent


def filled(text, sign, length):
    return text + coded(sign) * (length - len(text))


class LongTexts(unittest.TestCase):
    def check(self, text, answer):
        for call in CALLS.values():
            self.assertEqual(call(text), answer)
        there = answer if answer == [-2] else answer[:2] + [answer[2] + 16]
        self.assertEqual(like(text_of(PLAIN), text), there)

    def test_16384_bytes_are_read(self):
        plain = text_of(PLAIN)
        for sign in "\na 10?":
            self.check(filled(plain, sign, 16383), [-6, 9, 1])
            self.check(filled(plain, sign, 16384), [-6, 9, 1])
            self.check(filled([], sign, 16384), [-6, 0, 1])
            self.check(filled(coded("recipe "), sign, 16384), [-6, 0, 1])
            self.check(filled(text_of(PLAIN[:8]) + coded("yeast "), sign, 16383) + [10], [-6, 8, 1])

    def test_16384_bytes_of_formed_lines(self):
        line = text_of(["yeast 780"])
        text = text_of(PLAIN) + line * 1700
        text = text[:16383] + [10]
        self.check(text, [-6, 9, 3])

    def test_more_are_not(self):
        plain = text_of(PLAIN)
        for length in (16385, 16386, 40000):
            for sign in "\na 1?":
                self.check(filled(plain, sign, length), [-2])

    def test_more_with_a_fault_too(self):
        for length in (16385, 40000):
            self.check([0] * length, [-2])
            self.check([10] * length, [-2])
            self.check(filled(text_of(["water"]), "a", length), [-2])
            self.check(filled(text_of(["malt a 1 1"]), "\n", length), [-2])
            self.check(filled(text_of(recipe_of(17, 0, 0)), "\n", length), [-2])
            self.check((text_of(PLAIN) * 400)[:length], [-2])


class ByItself(unittest.TestCase):
    def setUp(self):
        self.texts = [
            text_of(PLAIN),
            text_of(recipe_of(16, 16, 16)),
            text_of(recipe_of(1, 0, 0)),
            text_of(recipe_of(17, 1, 1)),
            text_of(PLAIN[:4]),
            text_of(PLAIN)[:-1],
            text_of(PLAIN + PLAIN),
            [],
            [255] * 100,
            [10] * 16385,
        ]

    def test_what_was_handed_in_is_as_it_was(self):
        for text in self.texts:
            for call in CALLS.values():
                before = list(text)
                call(text)
                self.assertEqual(text, before)
                self.assertEqual(call(Unchangeable(text)), call(text))

    def test_what_was_handed_in_is_as_it_was_whatever_else_is_handed_in(self):
        batches = [(1, 0, 0), (100000, 20001, 77), (10000000, 10000000, 10000000), (0, 1, 1), (1, 10000001, 1)]
        for text in self.texts:
            before = list(text)
            held = Unchangeable(text)
            for i in (0, 1, 2, 4, 5, 6, 7, 47, 48, 4294967295):
                self.assertEqual(line(i, held), line(i, text))
            for batch in batches:
                self.assertEqual(scale(*batch, held), scale(*batch, text))
                self.assertEqual(tells(*batch, held), tells(*batch, text))
            for wanted in ((1, 0, 1), (100000, 3, 7), (10000000, 4294967295, 1), (0, 1, 1), (1, 1, 0)):
                self.assertEqual(malt(*wanted, held), malt(*wanted, text))
            self.assertEqual(text, before)
            self.assertEqual(list(held), before)

    def test_what_was_handed_in_is_as_it_was_in_each_place_of_like(self):
        for text in self.texts:
            for other in self.texts:
                before, there = list(text), list(other)
                answer = like(text, other)
                self.assertEqual((text, other), (before, there))
                held, held_there = Unchangeable(text), Unchangeable(other)
                self.assertEqual(like(held, held_there), answer)
                self.assertEqual((list(held), list(held_there)), (before, there))
            self.assertEqual(like(held, held), like(text, text))

    def test_a_second_call_answers_the_same(self):
        for call in CALLS.values():
            first = [call(text) for text in self.texts]
            for text, answer in list(zip(self.texts, first))[::-1]:
                self.assertEqual(call(text), answer)
                self.assertEqual(call(list(text)), answer)

    def test_a_changed_answer_or_text_does_not_reach_the_next_call(self):
        for text in self.texts:
            for call in CALLS.values():
                answer = call(text)
                kept = list(answer)
                answer.append(99)
                answer[0] = 7
                self.assertEqual(call(text), kept)
        text = text_of(PLAIN)
        self.assertEqual(judge(text), [0])
        text.pop()
        self.assertEqual(judge(text), [-6, 8, 1])
        text.append(10)
        self.assertEqual(sizes(text), [0, 2, 3, 2])

    def test_nothing_is_printed(self):
        out = io.StringIO()
        with contextlib.redirect_stdout(out), contextlib.redirect_stderr(out):
            for text in self.texts:
                for call in CALLS.values():
                    call(text)
        self.assertEqual(out.getvalue(), "")

    def test_nothing_is_imported_read_or_printed_by_the_words_of_the_program(self):
        for file in PACKAGE.glob("*.py"):
            for node in ast.walk(ast.parse(file.read_text("ascii"))):
                self.assertNotIsInstance(node, (ast.Import, ast.ImportFrom, ast.Global))
                if isinstance(node, ast.Name):
                    self.assertNotIn(node.id, ("print", "open", "input", "__import__", "eval", "exec"))

    def test_no_function_calls_itself(self):
        for file in PACKAGE.glob("*.py"):
            for node in ast.walk(ast.parse(file.read_text("ascii"))):
                if isinstance(node, ast.FunctionDef):
                    called = [n.func.id for n in ast.walk(node)
                              if isinstance(n, ast.Call) and isinstance(n.func, ast.Name)]
                    self.assertNotIn(node.name, called)

    def test_arguments_are_named_as_the_document_says(self):
        self.assertEqual(judge(text=text_of(PLAIN)), [0])
        self.assertEqual(sizes(text=text_of(PLAIN)), [0, 2, 3, 2])
        self.assertEqual(line(i=6, text=text_of(PLAIN)), [0, 2, 5, 0, 0, 4, 115, 97, 108, 116])
        self.assertEqual(scale(ml=100000, malt=20, hops=6, text=text_of(PLAIN)), [0, 18, 2, 2, 3, 1, 20, 5])
        # Extract 18 times 800 and 2 times 820; hops 2 times 350 times 300, 3 times 350 times 50, 300 times 50.
        self.assertEqual(tells(ml=16040, malt=20, hops=6, text=text_of(PLAIN)), [0, 1, 1, 13875, 802, 1989, 50000])
        self.assertEqual(like(text=text_of(PLAIN), other=[]), [-6, 0, 19])
        self.assertEqual(malt(ml=1000, n=16040, d=1000, text=text_of(PLAIN)), [0, 20])

    def test_whole_numbers_in_lists(self):
        batches = [(1, 0, 0), (100000, 20001, 77), (10000000, 10000000, 10000000)]
        answers = [call(text) for text in self.texts for call in CALLS.values()]
        answers += [line(i, text) for text in self.texts for i in range(8)]
        answers += [scale(*batch, text) for text in self.texts for batch in batches]
        answers += [tells(*batch, text) for text in self.texts for batch in batches]
        answers += [like(text, other) for text in self.texts for other in self.texts]
        answers += [malt(1000, n, d, text) for text in self.texts for n in (0, 1, 4294967295) for d in (0, 1, 1000)]
        for answer in answers:
            self.assertIs(type(answer), list)
            for number in answer:
                self.assertIs(type(number), int)


class Form(unittest.TestCase):
    def test_sizes_of_files_functions_and_lines(self):
        for file in PACKAGE.glob("*.py"):
            words = file.read_text("ascii")
            self.assertNotIn("\t", words)
            self.assertLessEqual(len(words.splitlines()), 399)
            self.assertLessEqual(max(len(line) for line in words.splitlines()), 120)
            for node in ast.walk(ast.parse(words)):
                if isinstance(node, ast.FunctionDef):
                    self.assertLessEqual(node.end_lineno - node.lineno + 1, 40, node.name)

    def test_nothing_but_the_program_lies_in_the_package(self):
        names = [file.name for file in PACKAGE.iterdir() if file.name != "__pycache__"]
        self.assertIn("__init__.py", names)
        self.assertIn("recipes.py", names)
        self.assertEqual([name for name in names if not name.endswith(".py")], [])


if __name__ == "__main__":
    unittest.main()
