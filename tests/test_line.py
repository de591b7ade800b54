"""line: the i-th of malts, hops and adds, number by number."""
import unittest

from brewrecipes.recipes import line
from tests.helper import PLAIN, REFUSED, coded, recipe_of, text_of


class OneOfTheLines(unittest.TestCase):
    def check(self, lines, told):
        """Each of what line tells, from 0 on, and nothing beyond: (what it is, numbers, name)."""
        text = text_of(lines)
        for i, (kind, numbers, name) in enumerate(told):
            with self.subTest(lines=lines, i=i):
                self.assertEqual(line(i, text), [0, kind, *numbers, len(name)] + coded(name))
        for i in (len(told), len(told) + 1, 100, 4294967294, 4294967295):
            self.assertEqual(line(i, text), [-4])

    def test_plain(self):
        self.check(PLAIN, [
            (0, [90, 800, 0], "pils"),
            (0, [10, 820, 0], "wheat"),
            (1, [2, 350, 60], "saaz"),
            (1, [3, 350, 10], "saaz"),
            (1, [1, 300, 10], "hersb"),
            (2, [20, 0, 0], "gypsum"),
            (2, [5, 0, 0], "salt"),
        ])

    def test_written_out(self):
        text = text_of(PLAIN)
        self.assertEqual(line(0, text), [0, 0, 90, 800, 0, 4, 112, 105, 108, 115])
        self.assertEqual(line(4, text), [0, 1, 1, 300, 10, 5, 104, 101, 114, 115, 98])
        self.assertEqual(line(5, text), [0, 2, 20, 0, 0, 6, 103, 121, 112, 115, 117, 109])

    def test_neither_hops_nor_adds(self):
        self.check(["recipe r", "malt a 1 1", "yeast 1"], [(0, [1, 1, 0], "a")])
        self.check(["recipe r", "malt a 1 1", "malt b 2 3", "yeast 1"], [(0, [1, 1, 0], "a"), (0, [2, 3, 0], "b")])

    def test_no_hops_or_no_adds(self):
        self.check(["recipe r", "malt a 1 2", "add b 3", "yeast 1"], [(0, [1, 2, 0], "a"), (2, [3, 0, 0], "b")])
        self.check(["recipe r", "malt a 1 2", "hop b 3 4 5", "yeast 1"], [(0, [1, 2, 0], "a"), (1, [3, 4, 5], "b")])

    def test_sixteen_of_each(self):
        told = [(0, [1, 800, 0], "n%d" % k) for k in range(16)]
        told += [(1, [1, 300, 60], "n%d" % k) for k in range(16)]
        told += [(2, [1, 0, 0], "n%d" % k) for k in range(16)]
        self.check(recipe_of(16, 16, 16), told)

    def test_first_last_and_one_beyond_of_each_kind(self):
        for malts in (1, 2, 16):
            for hops in (0, 1, 16):
                for adds in (0, 1, 16):
                    text = text_of(recipe_of(malts, hops, adds))
                    kinds = [0] * malts + [1] * hops + [2] * adds
                    self.assertEqual([line(i, text)[1] for i in range(len(kinds))], kinds)
                    self.assertEqual(line(len(kinds), text), [-4])

    def test_least_and_most(self):
        self.check(
            ["recipe r", "malt a 1 1", "malt abcdefghijkl 10000 850", "hop 0 10000 2500 120", "hop 012345678901 1 1 0",
             "add z 1", "add mnopqrstuvwx 100000", "yeast 1"],
            [(0, [1, 1, 0], "a"), (0, [10000, 850, 0], "abcdefghijkl"), (1, [10000, 2500, 120], "0"),
             (1, [1, 1, 0], "012345678901"), (2, [1, 0, 0], "z"), (2, [100000, 0, 0], "mnopqrstuvwx")])

    def test_names_of_every_length_and_sign(self):
        for length in range(1, 13):
            for start in range(0, 36, 5):
                name = ("abcdefghijklmnopqrstuvwxyz0123456789" * 2)[start:start + length]
                self.check(["recipe r", "malt %s 1 2" % name, "hop %s 3 4 5" % name, "add %s 6" % name, "yeast 1"],
                           [(0, [1, 2, 0], name), (1, [3, 4, 5], name), (2, [6, 0, 0], name)])

    def test_a_name_of_digits_stays_as_it_stands(self):
        self.assertEqual(line(0, text_of(["recipe r", "malt 007 1 2", "yeast 1"])), [0, 0, 1, 2, 0, 3, 48, 48, 55])

    def test_a_refused_text_whatever_is_asked(self):
        for i in (0, 1, 47, 48, 4294967295):
            for text, refusal in REFUSED:
                self.assertEqual(line(i, text), refusal)


if __name__ == "__main__":
    unittest.main()
