"""Texts that are recipes: judge answers 0, sizes how many of each kind there are."""
import unittest

from brewrecipes.recipes import judge, sizes
from tests.helper import PLAIN, coded, recipe_of, text_of


class RightRecipes(unittest.TestCase):
    def check(self, lines, counts):
        text = text_of(lines)
        self.assertEqual(judge(text), [0])
        self.assertEqual(sizes(text), [0] + counts)

    def test_plain(self):
        self.check(PLAIN, [2, 3, 2])

    def test_written_out_byte_by_byte(self):
        text = [114, 101, 99, 105, 112, 101, 32, 97, 10]
        text += [109, 97, 108, 116, 32, 98, 32, 49, 32, 50, 10]
        text += [121, 101, 97, 115, 116, 32, 57, 10]
        self.assertEqual(judge(text), [0])
        self.assertEqual(sizes(text), [0, 1, 0, 0])

    def test_every_choice_of_none_one_and_sixteen(self):
        for malt_count in (1, 2, 16):
            for hop_count in (0, 1, 2, 16):
                for add_count in (0, 1, 2, 16):
                    counts = [malt_count, hop_count, add_count]
                    with self.subTest(counts=counts):
                        self.check(recipe_of(*counts), counts)

    def test_like_names_among_different_kinds(self):
        self.check(["recipe a", "malt a 1 1", "hop a 1 1 1", "add a 1", "yeast 1"], [1, 1, 1])

    def test_names_that_are_first_words_or_digits(self):
        self.check(["recipe recipe", "malt malt 1 1", "malt yeast 1 1", "malt 0 1 1", "malt 00 1 1",
                    "hop hop 1 1 1", "hop 60 1 1 1", "add add 1", "add 007 1", "yeast 1"], [4, 2, 2])

    def test_hops_of_like_name_with_fewer_minutes(self):
        self.check(["recipe a", "malt a 1 1", "hop a 1 1 120", "hop a 1 1 119", "hop b 1 1 119",
                    "hop a 1 1 0", "yeast 1"], [1, 4, 0])

    def test_longest_recipe(self):
        tail = "abcdefghij"
        lines = ["recipe " + "z" * 12]
        lines += ["malt %02d%s 10000 850" % (k, tail) for k in range(16)]
        lines += ["hop %02d%s 10000 2500 120" % (k, tail) for k in range(16)]
        lines += ["add %02d%s 100000" % (k, tail) for k in range(16)]
        self.check(lines + ["yeast 950"], [16, 16, 16])

    def test_bytes_that_are_no_signs_of_ours(self):
        self.assertEqual(judge(coded("\x00\n")), [-6, 0, 1])
        self.assertEqual(judge(coded("\xff")), [-6, 0, 1])


if __name__ == "__main__":
    unittest.main()
