"""Promise 3: malts' parts, or hops', all multiplied by one number change nothing of what scale answers."""
import unittest

from brewrecipes.recipes import scale
from tests.helper import Draws, recipe_of_parts

MOST = 10000000


def times(parts, number):
    return [p * number for p in parts]


class PartsMultiplied(unittest.TestCase):
    def check(self, malts, hops, adds, batch):
        """Multiply by 2, 3, and as far as parts go, malts' and hops' each and both."""
        plain = scale(*batch, recipe_of_parts(malts, hops, adds))
        self.assertEqual(len(plain), 1 + len(malts) + len(hops) + len(adds))
        for more in {1, 2, 3, 10000 // max(malts)}:
            for again in {1, 2, 7, 10000 // max(hops)}:
                if more * max(malts) <= 10000 and again * max(hops) <= 10000:
                    text = recipe_of_parts(times(malts, more), times(hops, again), adds)
                    self.assertEqual(scale(*batch, text), plain, (malts, more, hops, again, batch))

    def test_many_recipes(self):
        draws = Draws(4)
        for k in range(600):
            malts, hops = draws.parts(16, 3000), draws.parts(16, 3000)
            most = draws.between(0, MOST)
            batch = (draws.between(1, MOST), draws.between(0, most), draws.between(0, most))
            self.check(malts, hops, [1, 100000], batch)

    def test_small_recipes(self):
        for malts, hops in (([1], [1]), ([1, 1, 1], [1, 1]), ([1, 2, 3], [3, 2, 1]), ([1] * 16, [1] * 16),
                            ([5000, 1], [1, 5000]), ([3, 7, 11], [2, 4, 6])):
            for weight in (0, 1, 2, 3, 4, 5, 100, 9999999, MOST):
                self.check(malts, hops, [7], (12345, weight, weight))

    def test_written_out(self):
        for number in (1, 2, 10, 1000, 3333):
            text = recipe_of_parts(times([1, 2, 3], number), times([1, 1], number))
            self.assertEqual(scale(1, 10, 3, text), [0, 2, 3, 5, 2, 1])


if __name__ == "__main__":
    unittest.main()
