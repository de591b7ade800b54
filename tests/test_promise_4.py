"""Promise 4: the malt told is enough, and no less of it is. Held against going through every lesser weight."""
import itertools
import unittest
from fractions import Fraction

from brewrecipes.recipes import malt, tells
from tests.helper import (GREATEST, MOST_GRAMS, Draws, asked, extracts_of, greatest_extract, quick_malt,
                          recipe_of_malts, rows_of, second_malt, second_scaled)


def drawn_malts(draws, most_parts):
    """Malts with parts of all kinds, whose extracts lie far apart, or close by, or anywhere."""
    choices = [(1, 2, 849, 850), tuple(range(790, 821)), tuple(range(1, 851)), (1, 850)][draws.between(0, 3)]
    parts = draws.parts(16, most_parts)
    if draws.between(0, 1):
        parts = [p if draws.between(0, 1) else draws.between(1, 3) for p in parts]
    return [(p, choices[draws.between(0, len(choices) - 1)]) for p in parts]


class EnoughAndNoLess(unittest.TestCase):
    def check(self, ml, n, d, text, extracts):
        """Hold the answer against the extracts of every weight from 0 on, of which one must be enough."""
        weight = 0
        while extracts[weight] * d < n * ml:
            weight += 1
        self.assertEqual(quick_malt(ml, n, d, text), [0, weight], (ml, n, d, bytes(text)))

    def check_many(self, draws, text, extracts):
        """Gravities that are met just, missed by the least, and any; none beyond what the weights at hand give."""
        most = max(extracts)
        for k in range(12):
            extract = extracts[draws.between(0, len(extracts) - 1)]
            ml = draws.between(1, draws.between(1, 4000000))
            times = GREATEST // max(ml, most)
            self.check(ml, extract, ml, text, extracts)
            self.check(ml, extract * times, ml * times, text, extracts)
            if extract < most:
                self.check(ml, extract + 1, ml, text, extracts)
                self.check(ml, extract * times + 1, ml * times, text, extracts)
            if extract > 0:
                self.check(ml, extract * times - 1, ml * times, text, extracts)
            self.check(ml, draws.between(0, most), ml, text, extracts)

    def test_many_recipes(self):
        draws = Draws(11)
        falls = 0
        for k in range(250):
            text = recipe_of_malts(*drawn_malts(draws, 10000))
            extracts = extracts_of(text, range(700))
            falls += sum(after < before for before, after in itertools.pairwise(extracts))
            self.check_many(draws, text, extracts)
        # There are weights enough of which more gives less, so that going by halves would go astray.
        self.assertGreater(falls, 500)

    def test_greater_weights(self):
        draws = Draws(12)
        for k in range(6):
            text = recipe_of_malts(*drawn_malts(draws, 10000))
            self.check_many(draws, text, extracts_of(text, range(12000)))

    def test_all_small_recipes(self):
        for count in (1, 2, 3):
            for rows in itertools.product(((1, 1), (1, 850), (3, 2), (3, 400)), repeat=count):
                text = recipe_of_malts(*rows)
                extracts = extracts_of(text, range(18))
                for needed in sorted({e + more for e in extracts for more in (0, 1) if e + more <= max(extracts)}):
                    self.check(1, needed, 1, text, extracts)

    def test_as_far_as_weights_go(self):
        draws = Draws(13)
        none = 0
        for k in range(150):
            text = recipe_of_malts(*drawn_malts(draws, 300))
            greatest = greatest_extract(text)
            for needed in (greatest - draws.between(1, 5000), greatest, greatest + 1, draws.between(1, greatest)):
                least = second_malt(text, needed)
                none += least > MOST_GRAMS
                answer = [0, least] if least <= MOST_GRAMS else [-3]
                self.assertEqual(quick_malt(*asked(needed), text), answer, (needed, bytes(text)))
        self.assertEqual(none, 150)

    def test_by_what_tells_answers(self):
        draws = Draws(14)
        for k in range(60):
            text = recipe_of_malts(*drawn_malts(draws, 10000))
            ml, n, d = draws.between(1, 200000), draws.between(0, 9000), draws.between(1, 9000)
            answer = malt(ml, n, d, text)
            if answer == [-3]:
                continue
            for weight in [answer[1]] + list(range(max(0, answer[1] - 40), answer[1])):
                above, below = tells(ml, weight, 0, text)[1:3]
                self.assertEqual(Fraction(above, below) >= Fraction(n, d), weight == answer[1])


class SecondWays(unittest.TestCase):
    """The ways that the answers are held against hold by themselves."""

    def test_extracts(self):
        draws = Draws(15)
        for k in range(40):
            text = recipe_of_malts(*drawn_malts(draws, 10000))
            rows = [numbers for name, numbers in rows_of(text, "m")]
            weights = [0, 1, 2, draws.between(3, 1000), draws.between(1000, MOST_GRAMS), MOST_GRAMS]
            for weight, extract in zip(weights, extracts_of(text, weights)):
                grams = second_scaled([p for p, x in rows], weight)
                self.assertEqual(sum(gram * x for gram, (p, x) in zip(grams, rows)), extract)

    def test_remainders(self):
        draws = Draws(16)
        for k in range(25):
            text = recipe_of_malts(*drawn_malts(draws, 20))
            extracts = extracts_of(text, range(2000))
            for needed in [extracts[draws.between(0, 1999)] + draws.between(-1, 1) for m in range(20)]:
                if needed <= max(extracts):
                    least = min(weight for weight, extract in enumerate(extracts) if extract >= needed)
                    self.assertEqual(second_malt(text, needed), least)

    def test_what_is_asked(self):
        for needed in [0, 1, GREATEST, GREATEST + 1, 8000000000, 8499999999, 8500000000, 8500000001]:
            ml, n, d = asked(needed)
            self.assertEqual(-(-ml * n // d), needed)
            self.assertLessEqual(n, GREATEST)


if __name__ == "__main__":
    unittest.main()
