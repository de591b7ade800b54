"""malt: the least malt for a gravity."""
import unittest

from brewrecipes.recipes import tells
from tests.helper import (GREATEST, PLAIN, REFUSED, asked, coded, extracts_of, greatest_extract, quick_malt, recipe_of,
                          recipe_of_malts, second_malt, text_of)

MOST = 10000000

ONE = recipe_of_malts((1, 800))
# The farther apart malts' extracts lie, the more a batch's is off what the shares would give.
FAR_APART = [
    recipe_of_malts((1, 850), (1, 1)),
    recipe_of_malts((1, 850), (3, 2), (3, 1)),
    recipe_of_malts((10000, 1), (1, 850)),
    recipe_of_malts((1, 1), (10000, 850)),
    recipe_of_malts((7, 1), (11, 850), (13, 2), (5, 849), (10000, 3)),
    recipe_of_malts(*[(1, 850)] * 8 + [(3, 1)] * 8),
    recipe_of_malts(*[(1, 850)] * 8 + [(10000, 1)] * 8),
    recipe_of_malts(*[(1, 850)] * 15 + [(10000, 1)]),
    recipe_of_malts(*[(k + 1, 850 if k % 2 else 1) for k in range(16)]),
    recipe_of_malts(*[((k * k * 37) % 997 + 1, (k * 311) % 850 + 1) for k in range(16)]),
    recipe_of_malts(*[(3000 + 77 * k, 1) for k in range(8)] + [(10 + k, 850) for k in range(8)]),
    recipe_of_malts(*[(1 + k, 850) for k in range(8)] + [(9999 - 701 * k, 1) for k in range(8)]),
]


class OrdinaryRecipes(unittest.TestCase):
    def test_plain(self):
        # 100 grams give 90 times 800 and 10 times 820: 80,200 milligrams.
        text = text_of(PLAIN)
        self.assertEqual(quick_malt(1000, 80200, 1000, text), [0, 100])
        self.assertEqual(quick_malt(1000, 802, 10, text), [0, 100])
        self.assertEqual(quick_malt(100000, 802, 5, text), [0, 20000])
        # 2,993 grams give 2,694 times 800 and 299 times 820: 2,400,380; 2,992 give 2,693 and 299: 2,399,580.
        self.assertEqual(quick_malt(20000, 120, 1, text), [0, 2993])
        self.assertEqual(quick_malt(20000, 119, 1, text), [0, 2968])

    def test_hops_adds_names_and_yeast_change_nothing(self):
        for lines in (["recipe a", "malt b 2 700", "malt c 1 100", "yeast 1"],
                      ["recipe z", "malt y 2 700", "malt x 1 100", "hop w 1 2500 120", "add v 100000", "yeast 950"]):
            # Of 3 grams 1,500 milligrams, of 4 grams (2 2/3 and 1 1/3) 2,200, of 5 (3 1/3 and 1 2/3) 2,300.
            for needed, grams in ((1, 1), (700, 1), (701, 2), (800, 2), (801, 3), (1500, 3), (1501, 4), (2200, 4),
                                  (2201, 5), (2300, 5), (2301, 6)):
                self.assertEqual(quick_malt(1, needed, 1, text_of(lines)), [0, grams])

    def test_one_malt(self):
        for needed, grams in ((1, 1), (799, 1), (800, 1), (801, 2), (1600, 2), (1601, 3), (800000, 1000),
                              (800001, 1001)):
            self.assertEqual(quick_malt(1, needed, 1, ONE), [0, grams])
            self.assertEqual(quick_malt(1, needed, 1, recipe_of_malts((10000, 800))), [0, grams])

    def test_sixteen_malts(self):
        text = text_of(recipe_of(16, 16, 16))
        for needed, grams in ((0, 0), (1, 1), (800, 1), (801, 2), (12800, 16), (12801, 17)):
            self.assertEqual(quick_malt(1, needed, 1, text), [0, grams])

    def test_millilitres_and_gravity_each_by_itself(self):
        for ml, n, d, grams in ((1000, 8, 1, 10), (2000, 8, 1, 20), (1000, 16, 1, 20), (1000, 8, 2, 5),
                                (500, 8, 1, 5), (1000, 7, 1, 9), (999, 8, 1, 10), (1001, 8, 1, 11), (1000, 8, 3, 4)):
            self.assertEqual(quick_malt(ml, n, d, ONE), [0, grams])

    def test_a_fraction_need_not_be_in_lowest_terms(self):
        for times in (1, 2, 3, 1000, 1000000, GREATEST // 800):
            self.assertEqual(quick_malt(1, 800 * times, times, ONE), [0, 1])
            self.assertEqual(quick_malt(5, 400 * times, times, ONE), [0, 3])


class Edges(unittest.TestCase):
    def test_millilitres(self):
        for ml, grams in ((1, 1), (2, 2), (MOST - 1, MOST - 1), (MOST, MOST)):
            self.assertEqual(quick_malt(ml, 800, 1, ONE), [0, grams])
        for ml in (0, MOST + 1, MOST + 2, GREATEST):
            for n, d in ((800, 1), (0, 1), (GREATEST, 1), (0, GREATEST), (1, 0), (0, 0)):
                self.assertEqual(quick_malt(ml, n, d, ONE), [-1])
                self.assertEqual(quick_malt(ml, n, d, text_of(PLAIN)), [-1])

    def test_a_gravity_divided_by_0(self):
        for ml in (1, 1000, MOST):
            for n in (0, 1, 800, GREATEST):
                self.assertEqual(quick_malt(ml, n, 0, ONE), [-1])
                self.assertEqual(quick_malt(ml, n, 0, text_of(PLAIN)), [-1])

    def test_no_gravity_asked(self):
        for ml in (1, 1000, MOST):
            for d in (1, 2, GREATEST):
                for text in [ONE, text_of(PLAIN)] + FAR_APART:
                    self.assertEqual(quick_malt(ml, 0, d, text), [0, 0])

    def test_the_least_gravity_above_0(self):
        for ml in (1, 1000, MOST):
            self.assertEqual(quick_malt(ml, 1, GREATEST, ONE), [0, 1])
            self.assertEqual(quick_malt(ml, 1, GREATEST, recipe_of_malts((1, 1))), [0, 1])

    def test_the_greatest_numbers(self):
        for text in [ONE, text_of(PLAIN), text_of(recipe_of(16, 16, 16))] + FAR_APART:
            for ml in (2, 3, 1000, MOST):
                self.assertEqual(quick_malt(ml, GREATEST, 1, text), [-3])
                # A gravity of 1.
                self.assertEqual(quick_malt(ml, GREATEST, GREATEST, text), quick_malt(ml, 1, 1, text))
                # Next to nothing below 1 and above.
                self.assertEqual(quick_malt(ml, GREATEST - 1, GREATEST, text), quick_malt(ml, 1, 1, text))
                grams = second_malt(text, ml + 1)
                self.assertEqual(quick_malt(ml, GREATEST, GREATEST - 1, text), [0, grams] if grams <= MOST else [-3])
        self.assertEqual(quick_malt(1, GREATEST, 1, ONE), [0, 5368710])
        self.assertEqual(quick_malt(1, GREATEST, 1, recipe_of_malts((1, 429))), [-3])
        self.assertEqual(quick_malt(MOST, GREATEST, GREATEST, ONE), [0, 12500])

    def test_met_just_and_missed_by_the_least(self):
        for ml in (1, 7, 1000, 99991, 4000000):
            for grams in (1, 2, 999, 4001):
                extract = 800 * grams
                self.assertEqual(quick_malt(ml, extract, ml, ONE), [0, grams])
                self.assertEqual(quick_malt(ml, extract - 1, ml, ONE), [0, grams])
                self.assertEqual(quick_malt(ml, extract + 1, ml, ONE), [0, grams + 1])
                # By a fraction of a milligram: much less than what stands between two weights' extracts.
                times = GREATEST // max(extract + 1, ml)
                self.assertEqual(quick_malt(ml, extract * times, ml * times, ONE), [0, grams])
                self.assertEqual(quick_malt(ml, extract * times - 1, ml * times, ONE), [0, grams])
                self.assertEqual(quick_malt(ml, extract * times + 1, ml * times, ONE), [0, grams + 1])

    def test_the_last_weight(self):
        # 10,000,000 grams give 8,000,000,000 milligrams.
        self.assertEqual(quick_malt(MOST, 800, 1, ONE), [0, MOST])
        self.assertEqual(quick_malt(MOST, 799999, 1000, ONE), [0, 9999988])
        self.assertEqual(quick_malt(MOST, 4000000000, 5000000, ONE), [0, MOST])
        self.assertEqual(quick_malt(MOST, 3999999999, 5000000, ONE), [0, MOST])
        self.assertEqual(quick_malt(MOST, 4000000001, 5000000, ONE), [-3])
        self.assertEqual(quick_malt(MOST, 801, 1, ONE), [-3])
        self.assertEqual(quick_malt(2, 4000000000, 1, ONE), [0, MOST])
        self.assertEqual(quick_malt(2, 4000000001, 1, ONE), [-3])
        self.assertEqual(quick_malt(1, MOST, 1, recipe_of_malts((1, 1))), [0, MOST])
        self.assertEqual(quick_malt(1, MOST + 1, 1, recipe_of_malts((1, 1))), [-3])
        self.assertEqual(quick_malt(MOST, 1, 1, recipe_of_malts((9999, 1), (1, 1))), [0, MOST])

    def test_the_last_weights_of_malts_that_lie_far_apart(self):
        for text in FAR_APART:
            greatest, last = greatest_extract(text), extracts_of(text, [MOST])[0]
            for needed in (greatest - 3000, greatest - 500, greatest - 2, greatest - 1, greatest, last, last - 1):
                self.assertEqual(quick_malt(*asked(needed), text), [0, second_malt(text, needed)])
            for needed in (greatest + 1, greatest + 2, greatest + 1000, greatest + 8000):
                self.assertEqual(quick_malt(*asked(needed), text), [-3])

    def test_the_greatest_extract_is_not_always_that_of_the_last_weight(self):
        lesser = [text for text in FAR_APART if extracts_of(text, [MOST])[0] < greatest_extract(text)]
        self.assertGreater(len(lesser), 1)


class MoreMaltWithLessExtract(unittest.TestCase):
    def test_written_out(self):
        # One gram: shares 1/7, 3/7, 3/7: to the second. Two: 2/7, 6/7, 6/7: none to the first. Three: 3/7, 9/7, 9/7:
        # one each. Four: 4/7, 12/7, 12/7: 0, 2, 2, and the first has lost its gram. Five: 5/7, 15/7, 15/7: 1, 2, 2.
        text = recipe_of_malts((1, 850), (3, 2), (3, 1))
        self.assertEqual([tells(1, weight, 0, text)[1] for weight in range(6)], [0, 2, 3, 853, 6, 856])
        for needed, grams in ((1, 1), (2, 1), (3, 2), (4, 3), (6, 3), (7, 3), (852, 3), (853, 3), (854, 5), (856, 5)):
            self.assertEqual(quick_malt(1, needed, 1, text), [0, grams], needed)

    def test_every_extract_of_malts_that_lie_far_apart(self):
        falls = 0
        for text in FAR_APART:
            extracts = extracts_of(text, range(250))
            greatest = 0
            for weight, extract in enumerate(extracts):
                falls += weight > 0 and extract < extracts[weight - 1]
                if extract > greatest:
                    # The least that is more than what any weight before gave, and the most that this one gives.
                    for needed in (greatest + 1, extract):
                        self.assertEqual(quick_malt(1, needed, 1, text), [0, weight])
                    greatest = extract
        self.assertGreater(falls, 40)

    def test_weights_in_between(self):
        for text in FAR_APART:
            for weight in (30000, 80000, 80001, 1234567, 5000000, 9000000):
                for extract in extracts_of(text, [weight]):
                    for needed in (extract, extract + 1):
                        self.assertEqual(quick_malt(*asked(needed), text), [0, second_malt(text, needed)])


class RefusedTexts(unittest.TestCase):
    def test_whatever_is_asked(self):
        for asked in ((1, 1, 1), (0, 1, 1), (MOST + 1, 1, 1), (1, 1, 0), (1, GREATEST, 1), (1, 0, 1), (0, 0, 0)):
            for text, refusal in REFUSED:
                self.assertEqual(quick_malt(*asked, text), refusal)
            self.assertEqual(quick_malt(*asked, coded("\n") * 16384), [-6, 0, 1])
            self.assertEqual(quick_malt(*asked, coded("\n") * 16385), [-2])
            self.assertEqual(quick_malt(*asked, [255] * 40000), [-2])


if __name__ == "__main__":
    unittest.main()
