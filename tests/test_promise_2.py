"""Promise 2: scaled grams are just the weight, each its share down or one more, greater fractions first."""
import itertools
import unittest
from fractions import Fraction

from brewrecipes.recipes import scale
from tests.helper import Draws, recipe_of_parts


class JustTheWeight(unittest.TestCase):
    def check_grams(self, parts, weight, grams):
        together = sum(parts)
        self.assertEqual(len(grams), len(parts))
        self.assertEqual(sum(grams), weight)
        got, left_out = [], []
        for p, gram in zip(parts, grams):
            share = Fraction(weight * p, together)
            down = share.numerator // share.denominator
            self.assertIn(gram, (down, down + 1))
            (got if gram > down else left_out).append(share - down)
        if got and left_out:
            self.assertGreaterEqual(min(got), max(left_out))

    def check(self, malts, malt, hops, weight):
        with self.subTest(malts=malts, malt=malt, hops=hops, weight=weight):
            answer = scale(1, malt, weight, recipe_of_parts(malts, hops))
            self.assertEqual(answer[0], 0)
            self.check_grams(malts, malt, answer[1:1 + len(malts)])
            self.check_grams(hops, weight, answer[1 + len(malts):])

    def test_all_small_parts_and_weights(self):
        for count in (1, 2, 3):
            for parts in itertools.product((1, 2, 3, 5), repeat=count):
                for weight in range(12):
                    self.check(list(parts), weight, list(parts)[::-1], 11 - weight)

    def test_many_recipes(self):
        draws = Draws(1)
        for k in range(2000):
            malts, hops = draws.parts(16, 10000), draws.parts(16, 10000)
            most = draws.between(0, 10000000)
            self.check(malts, draws.between(0, most), hops, draws.between(0, min(most, 1000)))

    def test_the_greatest_weights(self):
        draws = Draws(2)
        for k in range(300):
            malts, hops = draws.parts(16, 10000), draws.parts(16, 10000)
            for weight in (9999999, 10000000):
                self.check(malts, weight, hops, weight)

    def test_fractions_that_lie_close_by(self):
        # A fraction of a gram that is told by a rounded number would be taken for the one beside it.
        for first in range(9985, 10001):
            parts = [10000] * 14 + [first, 9999]
            for weight in (1, 9999991, 9999999):
                self.check(parts, weight, parts[::-1], weight)


if __name__ == "__main__":
    unittest.main()
