"""scale: grams of malts, hops and adds of a batch."""
import unittest

from brewrecipes.recipes import scale
from tests.helper import PLAIN, REFUSED, Draws, recipe_of, recipe_of_parts, second_add, second_scaled, text_of

MOST = 10000000


class Batches(unittest.TestCase):
    def test_plain(self):
        text = text_of(PLAIN)
        self.assertEqual(scale(100000, 20000, 60, text), [0, 18000, 2000, 20, 30, 10, 20, 5])
        # Malts 29999.7, 3333.3; hops 100 / 6 times 2, 3, 1: 33 1/3, 50, 16 2/3; adds 2.5 times 20 and 5: 50, 12.5.
        self.assertEqual(scale(250000, 33333, 100, text), [0, 30000, 3333, 33, 50, 17, 50, 13])

    def test_many_batches_held_against_a_second_scaler(self):
        draws = Draws(3)
        for k in range(1500):
            malts = draws.parts(16, 10000)
            hops = draws.parts(16, 10000) if draws.between(0, 3) else []
            adds = draws.parts(16, 100000) if draws.between(0, 3) else []
            ml = draws.between(1, MOST)
            malt = draws.between(0, draws.between(0, MOST))
            weight = draws.between(0, draws.between(0, MOST)) if hops else 0
            grams = second_scaled(malts, malt)
            grams += second_scaled(hops, weight) if hops else []
            grams += [second_add(g, ml) for g in adds]
            text = recipe_of_parts(malts, hops, adds)
            self.assertEqual(scale(ml, malt, weight, text), [0] + grams, (ml, malt, weight, bytes(text)))

    def test_names_acids_minutes_and_yeast_change_nothing(self):
        text = text_of(["recipe a", "malt zz 2 1", "malt b 1 850", "hop q 2 2500 120", "hop q 1 1 0", "add x 7",
                        "yeast 1"])
        other = text_of(["recipe b", "malt c 2 850", "malt d 1 1", "hop r 2 1 5", "hop s 1 9 5", "add y 7",
                         "yeast 950"])
        self.assertEqual(scale(99999, 1000, 50, text), [0, 667, 333, 33, 17, 7])
        self.assertEqual(scale(99999, 1000, 50, other), [0, 667, 333, 33, 17, 7])

    def test_neither_hops_nor_adds(self):
        self.assertEqual(scale(1, 0, 0, recipe_of_parts([7], [])), [0, 0])
        self.assertEqual(scale(1, 12345, 0, recipe_of_parts([7], [])), [0, 12345])
        self.assertEqual(scale(MOST, MOST, 0, recipe_of_parts([1, 1], [])), [0, 5000000, 5000000])

    def test_sixteen_of_each(self):
        text = text_of(recipe_of(16, 16, 16))
        self.assertEqual(scale(MOST, 160, 32, text), [0] + [10] * 16 + [2] * 16 + [100] * 16)
        for left in range(17):
            grams = [2] * left + [1] * (16 - left)
            self.assertEqual(scale(1, 16 + left, left, text), [0] + grams + [g - 1 for g in grams] + [0] * 16)

    def test_a_weight_of_0(self):
        text = recipe_of_parts([1, 9, 10000], [5, 3], [100000])
        self.assertEqual(scale(100000, 0, 0, text), [0, 0, 0, 0, 0, 0, 100000])
        self.assertEqual(scale(100000, 0, 8, text), [0, 0, 0, 0, 5, 3, 100000])
        self.assertEqual(scale(100000, 10010, 0, text), [0, 1, 9, 10000, 0, 0, 100000])

    def test_the_greatest_fractions_get_the_grams(self):
        # 10 / 6 times 1, 2, 3: 1 4/6, 3 2/6, 5.
        self.assertEqual(scale(1, 10, 0, recipe_of_parts([1, 2, 3], [])), [0, 2, 3, 5])
        self.assertEqual(scale(1, 10, 0, recipe_of_parts([3, 2, 1], [])), [0, 5, 3, 2])
        # 7 / 10 times 1, 2, 3, 4: 0.7, 1.4, 2.1, 2.8: two are left over.
        self.assertEqual(scale(1, 7, 0, recipe_of_parts([1, 2, 3, 4], [])), [0, 1, 1, 2, 3])
        self.assertEqual(scale(1, 0, 7, recipe_of_parts([1], [1, 2, 3, 4])), [0, 0, 1, 1, 2, 3])
        # The greatest parts don't have the greatest fraction: 11 / 10 times 9, 1: 9.9, 1.1; 19 / 10: 17.1, 1.9.
        self.assertEqual(scale(1, 11, 0, recipe_of_parts([9, 1], [])), [0, 10, 1])
        self.assertEqual(scale(1, 19, 0, recipe_of_parts([9, 1], [])), [0, 17, 2])
        self.assertEqual(scale(1, 1, 0, recipe_of_parts([9999, 10000], [])), [0, 0, 1])

    def test_of_like_fractions_the_first_gets_the_gram(self):
        for parts, weight, grams in (
            ([1, 1], 1, [1, 0]),
            ([1, 1, 1], 1, [1, 0, 0]),
            ([1, 1, 1], 2, [1, 1, 0]),
            ([1, 1, 1], 5, [2, 2, 1]),
            ([1, 2, 1], 2, [1, 1, 0]),
            ([1, 3], 2, [1, 1]),
            ([3, 1], 2, [2, 0]),
            ([1, 4, 7], 4, [1, 1, 2]),
            ([7, 4, 1], 4, [3, 1, 0]),
            ([2, 1, 1, 2], 3, [1, 1, 0, 1]),
            ([1, 10000, 1], 5001, [1, 5000, 0]),
        ):
            self.assertEqual(scale(1, weight, 0, recipe_of_parts(parts, [])), [0] + grams)
            self.assertEqual(scale(1, 0, weight, recipe_of_parts([1], parts)), [0, 0] + grams)

    def test_malts_and_hops_are_scaled_each_by_themselves(self):
        text = recipe_of_parts([1, 1], [10000, 5000])
        self.assertEqual(scale(1, 3, 3, text), [0, 2, 1, 2, 1])


class Adds(unittest.TestCase):
    def check(self, grams, ml, answer):
        self.assertEqual(scale(ml, 0, 0, recipe_of_parts([1], [], [grams])), [0, 0, answer], (grams, ml))

    def test_half_a_gram_and_more_up(self):
        for grams, ml, answer in ((1, 50000, 1), (1, 150000, 2), (1, 250000, 3), (2, 25000, 1), (3, 50000, 2),
                                  (5, 50000, 3), (50000, 1, 1), (50000, 3, 2), (25000, 2, 1), (100, 500, 1),
                                  (99999, 50000, 50000), (1, 9950000, 100)):
            self.check(grams, ml, answer)
            if grams == 1:
                self.check(1, ml - 1, answer - 1)
                self.check(1, ml + 1, answer)

    def test_just_below_and_above_half_a_gram(self):
        self.check(1, 49999, 0)
        self.check(1, 50001, 1)
        self.check(49999, 1, 0)
        self.check(50001, 1, 1)
        self.check(99999, 1, 1)
        self.check(1, 99999, 1)
        self.check(1, 100001, 1)

    def test_least_and_most(self):
        self.check(1, 1, 0)
        self.check(100000, 1, 1)
        self.check(1, MOST, 100)
        self.check(100000, MOST, MOST)
        self.check(99999, MOST - 1, 9999899)

    def test_each_is_rounded_by_itself(self):
        text = recipe_of_parts([1], [], [1, 3, 5, 2])
        self.assertEqual(scale(50000, 0, 0, text), [0, 0, 1, 2, 3, 1])


class BeyondItsBounds(unittest.TestCase):
    def setUp(self):
        self.with_hops = recipe_of_parts([1], [1])
        self.without = recipe_of_parts([1], [])

    def test_millilitres(self):
        for ml in (1, 2, MOST - 1, MOST):
            self.assertEqual(scale(ml, 5, 3, self.with_hops), [0, 5, 3])
            self.assertEqual(scale(ml, 5, 0, self.without), [0, 5])
        for ml in (0, MOST + 1, 4294967295):
            self.assertEqual(scale(ml, 5, 3, self.with_hops), [-1])
            self.assertEqual(scale(ml, 0, 0, self.with_hops), [-1])
            self.assertEqual(scale(ml, 5, 0, self.without), [-1])

    def test_grams_of_malt(self):
        for malt in (0, 1, MOST - 1, MOST):
            self.assertEqual(scale(1, malt, 3, self.with_hops), [0, malt, 3])
            self.assertEqual(scale(1, malt, 0, self.without), [0, malt])
        for malt in (MOST + 1, 4294967295):
            self.assertEqual(scale(1, malt, 3, self.with_hops), [-1])
            self.assertEqual(scale(1, malt, 0, self.without), [-1])

    def test_grams_of_hops(self):
        for hops in (0, 1, MOST - 1, MOST):
            self.assertEqual(scale(1, 5, hops, self.with_hops), [0, 5, hops])
        for hops in (MOST + 1, 4294967295):
            self.assertEqual(scale(1, 5, hops, self.with_hops), [-1])

    def test_grams_of_hops_where_there_are_none(self):
        for hops in (1, 2, MOST, MOST + 1, 4294967295):
            self.assertEqual(scale(1, 5, hops, self.without), [-1])
            self.assertEqual(scale(1, 5, hops, recipe_of_parts([1], [], [1])), [-1])
        self.assertEqual(scale(1, 5, 0, self.without), [0, 5])

    def test_a_refused_text_whatever_the_batch(self):
        for batch in ((1, 1, 1), (0, 1, 1), (MOST + 1, 1, 1), (1, MOST + 1, 0), (1, 0, MOST + 1), (0, 0, 0)):
            for text, refusal in REFUSED:
                self.assertEqual(scale(*batch, text), refusal)


if __name__ == "__main__":
    unittest.main()
