"""tells: gravity, bitterness and strength of a batch, in lowest terms."""
import math
import unittest
from fractions import Fraction

from brewrecipes.recipes import tells
from tests.helper import (PLAIN, REFUSED, Draws, recipe_drawn, recipe_of, recipe_of_parts, second_tells, second_use,
                          text_of)

MOST = 10000000


def one_malt(extract, yeast, hops=()):
    """A recipe of one malt and these hops."""
    return text_of(["recipe r", "malt m 1 %d" % extract, *hops, "yeast %d" % yeast])


class Batches(unittest.TestCase):
    def check(self, batch, text, fractions):
        """The answer in full: each fraction's two numbers, as Fraction holds them in lowest terms."""
        numbers = [number for f in fractions for number in (f.numerator, f.denominator)]
        self.assertEqual(tells(*batch, text), [0] + numbers, (batch, bytes(text)))

    def test_plain(self):
        # Malts 18000 times 800, 2000 times 820; hops 20 times 350 times 300, 30 times 350 times 50, 10 times 300
        # times 50.
        text = text_of(PLAIN)
        self.assertEqual(tells(100000, 20000, 60, text), [0, 802, 5, 111, 4, 797589, 125000])
        # Scaled to 30000 and 3333; to 33, 50 and 17.
        extract = 30000 * 800 + 3333 * 820
        bitter = 33 * 350 * 300 + 50 * 350 * 50 + 17 * 300 * 50
        self.check((250000, 33333, 100), text, [Fraction(extract, 250000), Fraction(bitter, 250000),
                                                Fraction(extract * 780 * 51, 250000 * 1000000)])

    def test_many_batches_held_against_a_second_teller(self):
        draws = Draws(5)
        for k in range(1500):
            text = text_of(recipe_drawn(draws))
            ml = draws.between(1, draws.between(1, MOST))
            malt = draws.between(0, draws.between(0, MOST))
            hops = draws.between(0, draws.between(0, MOST)) if b"\nhop" in bytes(text) else 0
            self.check((ml, malt, hops), text, second_tells(ml, malt, hops, text))

    def test_extract_is_of_scaled_grams_not_of_shares(self):
        # One gram of two malts of one part each: it goes to the first.
        text = text_of(["recipe r", "malt a 1 800", "malt b 1 200", "hop a 1 100 10", "hop b 1 200 10", "yeast 500"])
        self.check((1, 1, 1), text, [Fraction(800), Fraction(100 * 50), Fraction(800 * 500 * 51, 1000000)])
        self.check((1, 3, 3), text, [Fraction(1800), Fraction(400 * 50), Fraction(1800 * 500 * 51, 1000000)])

    def test_sixteen_of_each(self):
        text = text_of(recipe_of(16, 16, 16))
        self.assertEqual(tells(1, 16, 16, text), [0, 12800, 1, 1440000, 1, 2448, 5])

    def test_neither_hops_nor_adds(self):
        self.assertEqual(tells(1, 0, 0, one_malt(1, 1)), [0, 0, 1, 0, 1, 0, 1])
        self.assertEqual(tells(1, 1, 0, one_malt(1, 1)), [0, 1, 1, 0, 1, 51, 1000000])

    def test_names_and_adds_change_nothing(self):
        for lines in (["recipe a", "malt b 3 800", "hop c 1 2 3", "yeast 7"],
                      ["recipe z", "malt y 3 800", "hop x 1 2 3", "add w 100000", "add v 1", "yeast 7"]):
            self.check((1000, 10, 9), text_of(lines), [Fraction(8), Fraction(270, 1000), Fraction(8 * 7 * 51, 1000000)])

    def test_each_number_by_itself(self):
        for ml, malt, hops, x, a, u in ((2, 3, 5, 7, 11, 13), (4, 3, 5, 7, 11, 13), (2, 6, 5, 7, 11, 13),
                                        (2, 3, 10, 7, 11, 13), (2, 3, 5, 14, 11, 13), (2, 3, 5, 7, 22, 13),
                                        (2, 3, 5, 7, 11, 26)):
            text = one_malt(x, u, ["hop h 9 %d 1" % a])
            self.check((ml, malt, hops), text, [Fraction(malt * x, ml), Fraction(hops * a * 5, ml),
                                                Fraction(malt * x * u * 51, ml * 1000000)])


class Use(unittest.TestCase):
    def test_edges(self):
        for minutes, use in ((0, 0), (1, 5), (2, 10), (58, 290), (59, 295), (60, 300), (61, 301), (62, 302),
                             (88, 328), (89, 329), (90, 330), (91, 330), (92, 330), (119, 330), (120, 330)):
            text = one_malt(1, 1, ["hop h 1 1 %d" % minutes])
            self.assertEqual(tells(1, 0, 1, text), [0, 0, 1, use, 1, 0, 1], minutes)

    def test_every_minute(self):
        for minutes in range(121):
            text = one_malt(1, 1, ["hop h 1 3 %d" % minutes])
            self.assertEqual(tells(1, 0, 7, text), [0, 0, 1, 21 * second_use(minutes), 1, 0, 1], minutes)

    def test_each_hop_has_its_own(self):
        hops = ["hop h 1 1 120", "hop h 1 10 60", "hop h 1 100 59", "hop g 1 1000 59", "hop h 1 7 0"]
        bitter = 330 + 3000 + 29500 + 295000
        self.assertEqual(tells(1, 0, 5, one_malt(1, 1, hops)), [0, 0, 1, bitter, 1, 0, 1])


class LowestTerms(unittest.TestCase):
    def test_gravity(self):
        for extract, ml, above, below in ((800, 1, 800, 1), (800, 800, 1, 1), (800, 1600, 1, 2), (800, 1200, 2, 3),
                                          (800, 801, 800, 801), (7, 10000, 7, 10000), (9, 6, 3, 2), (6, 9, 2, 3),
                                          (849, MOST, 849, MOST), (850, MOST, 17, 200000), (1, MOST, 1, MOST)):
            self.assertEqual(tells(ml, 1, 0, one_malt(extract, 1))[:3], [0, above, below])

    def test_bitterness(self):
        for acid, minutes, ml, above, below in ((1, 1, 5, 1, 1), (1, 1, 1, 5, 1), (1, 1, 10, 1, 2), (1, 1, 7, 5, 7),
                                                (3, 2, 9, 10, 3), (2500, 120, 825000, 1, 1), (7, 61, 300, 2107, 300)):
            text = one_malt(1, 1, ["hop h 1 %d %d" % (acid, minutes)])
            self.assertEqual(tells(ml, 0, 1, text)[3:5], [above, below])

    def test_strength(self):
        for extract, yeast, ml, above, below in ((1, 1, 1, 51, 1000000), (1, 1, 51, 1, 1000000),
                                                 (800, 500, 51, 2, 5), (800, 500, 1, 102, 5), (1, 950, 1, 969, 20000),
                                                 (7, 11, MOST, 3927, 10000000000000), (850, 1, 17, 51, 20000)):
            self.assertEqual(tells(ml, 1, 0, one_malt(extract, yeast))[5:], [above, below])

    def test_nought_is_0_over_1(self):
        for ml in (1, 2, 51, 99999, MOST):
            text = text_of(PLAIN)
            self.assertEqual(tells(ml, 0, 0, text), [0, 0, 1, 0, 1, 0, 1])
            self.assertEqual(tells(ml, 0, 6, text)[:3], [0, 0, 1])
            self.assertNotEqual(tells(ml, 0, 6, text)[3:5], [0, 1])
            self.assertEqual(tells(ml, 0, 6, text)[5:], [0, 1])
            self.assertNotEqual(tells(ml, 10, 0, text)[1:3], [0, 1])
            self.assertEqual(tells(ml, 10, 0, text)[3:5], [0, 1])
            self.assertNotEqual(tells(ml, 10, 0, text)[5:], [0, 1])
            unboiled = one_malt(1, 1, ["hop h 1 2500 0"])
            self.assertEqual(tells(ml, 0, MOST, unboiled), [0, 0, 1, 0, 1, 0, 1])

    def test_nothing_divides_both(self):
        draws = Draws(6)
        for k in range(500):
            text = recipe_of_parts(draws.parts(16, 10000), draws.parts(16, 10000))
            ml = 10 ** draws.between(0, 7) if k % 2 else draws.between(1, MOST)
            numbers = tells(ml, draws.between(0, 99999), draws.between(0, 999), text)
            for place in (1, 3, 5):
                self.assertEqual(math.gcd(*numbers[place:place + 2]), 1)


class BeyondItsBounds(unittest.TestCase):
    def setUp(self):
        self.with_hops = one_malt(1, 500, ["hop h 1 1 1"])
        self.without = one_malt(1, 500)

    def test_millilitres(self):
        self.assertEqual(tells(1, 1, 1, self.with_hops), [0, 1, 1, 5, 1, 51, 2000])
        self.assertEqual(tells(MOST, 1, 1, self.with_hops), [0, 1, MOST, 1, MOST // 5, 51, 2000 * MOST])
        self.assertEqual(tells(MOST, MOST, 0, self.without), [0, 1, 1, 0, 1, 51, 2000])
        for ml in (0, MOST + 1, 4294967295):
            self.assertEqual(tells(ml, 1, 1, self.with_hops), [-1])
            self.assertEqual(tells(ml, 0, 0, self.with_hops), [-1])
            self.assertEqual(tells(ml, 1, 0, self.without), [-1])

    def test_grams_of_malt(self):
        for malt in (0, 1, MOST - 1, MOST):
            self.assertEqual(tells(1, malt, 0, self.without)[:3], [0, malt, 1])
            self.assertEqual(tells(1, malt, 1, self.with_hops)[:3], [0, malt, 1])
        for malt in (MOST + 1, 4294967295):
            self.assertEqual(tells(1, malt, 0, self.without), [-1])
            self.assertEqual(tells(1, malt, 1, self.with_hops), [-1])

    def test_grams_of_hops(self):
        for hops in (0, 1, MOST - 1, MOST):
            self.assertEqual(tells(1, 0, hops, self.with_hops), [0, 0, 1, 5 * hops, 1, 0, 1])
        for hops in (MOST + 1, 4294967295):
            self.assertEqual(tells(1, 0, hops, self.with_hops), [-1])

    def test_grams_of_hops_where_there_are_none(self):
        for hops in (1, 2, MOST, MOST + 1, 4294967295):
            self.assertEqual(tells(1, 1, hops, self.without), [-1])
            self.assertEqual(tells(1, 1, hops, recipe_of_parts([1], [], [1])), [-1])

    def test_the_most_of_all(self):
        lines = ["malt m%d 10000 850" % k for k in range(16)] + ["hop h%d 10000 2500 120" % k for k in range(16)]
        text = text_of(["recipe r", *lines, "yeast 950"])
        self.assertEqual(tells(1, MOST, MOST, text), [0, 850 * MOST, 1, 2500 * 330 * MOST, 1, 850 * 950 * 51 * 10, 1])

    def test_a_refused_text_whatever_the_batch(self):
        for batch in ((1, 1, 1), (0, 1, 1), (MOST + 1, 1, 1), (1, MOST + 1, 0), (1, 0, MOST + 1), (0, 0, 0)):
            for text, refusal in REFUSED:
                self.assertEqual(tells(*batch, text), refusal)


if __name__ == "__main__":
    unittest.main()
