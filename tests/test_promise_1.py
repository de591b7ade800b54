"""Promise 1: a text is one recipe, or has one fault. Many texts, held against a second judge."""
import itertools
import unittest

from brewrecipes.recipes import judge, sizes
from tests.helper import PLAIN, recipe_of, second_judge, text_of


class OneRecipeOrOneFault(unittest.TestCase):
    def check(self, text):
        judged, sized = second_judge(text)
        if judge(text) != judged or sizes(text) != sized:
            self.fail("%r: %r, %r, not %r, %r" % (bytes(text), judge(text), sizes(text), judged, sized))
        return judged

    def test_every_start_of_a_recipe(self):
        text = text_of(recipe_of(2, 2, 2))
        for length in range(len(text) + 1):
            right = self.check(text[:length]) == [0]
            self.assertEqual(right, length == len(text))

    def test_every_byte_left_out_twice_or_another(self):
        text = text_of(PLAIN)
        others = [0, 9, 10, 13, 32, 47, 48, 49, 57, 58, 96, 97, 104, 122, 123, 160, 255]
        for k in range(len(text)):
            self.check(text[:k] + text[k + 1:])
            self.check(text[:k] + [text[k]] + text[k:])
            for byte in others:
                self.check(text[:k] + [byte] + text[k + 1:])
                self.check(text[:k] + [byte] + text[k:])

    def test_every_order_of_a_few_lines(self):
        choice = ["recipe r", "malt a 1 1", "malt b 1 1", "hop a 1 1 5", "hop b 1 1 5", "hop a 1 1 6",
                  "add a 1", "yeast 1", "hop a 1 1 121"]
        right = 0
        for count in range(5):
            for lines in itertools.product(choice, repeat=count):
                right += self.check(text_of(lines)) == [0]
        # One malt; two in either order; one and a hop, of three; one and an add.
        self.assertEqual(right, 2 + 2 + 2 * 3 + 2)

    def test_every_order_behind_a_right_start(self):
        choice = ["malt b 1 1", "hop a 1 1 5", "hop b 1 1 5", "hop a 1 1 4", "hop b 1 1 6", "add a 1", "add b 1",
                  "yeast 1"]
        for count in range(5):
            for lines in itertools.product(choice, repeat=count):
                self.check(text_of(["recipe r", "malt a 1 1", *lines]))

    def test_every_line_of_a_full_recipe_moved_left_out_or_twice(self):
        lines = recipe_of(16, 16, 16)
        for k, line in enumerate(lines):
            rest = lines[:k] + lines[k + 1:]
            self.check(text_of(rest))
            for place in range(0, len(rest) + 1):
                self.check(text_of(rest[:place] + [line] + rest[place:]))
            for place in range(0, len(lines) + 1):
                self.check(text_of(lines[:place] + [line] + lines[place:]))

    def test_counts_of_each_kind(self):
        for counts in itertools.product((0, 1, 15, 16, 17), repeat=3):
            self.check(text_of(recipe_of(*counts)))


if __name__ == "__main__":
    unittest.main()
