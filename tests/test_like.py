"""like: two recipes held against one another."""
import unittest

from brewrecipes.recipes import like
from tests.helper import PLAIN, REFUSED, adds, coded, recipe_of, text_of

HEAD = ["recipe r", "malt a 1 800"]
YEAST = ["yeast 750"]


class LikeCase(unittest.TestCase):
    def check(self, answer, lines, others):
        """What is answered of two recipes in either order, and of each with itself."""
        text, other = text_of(lines), text_of(others)
        with self.subTest(lines=lines, others=others):
            self.assertEqual(like(text, other), [answer])
            self.assertEqual(like(other, text), [answer])
            self.assertEqual(like(text, text), [1])
            self.assertEqual(like(other, list(other)), [1])

    def check_malts(self, answer, lines, others):
        self.check(answer, ["recipe r"] + lines + YEAST, ["recipe r"] + others + YEAST)

    def check_behind_malts(self, answer, lines, others):
        self.check(answer, HEAD + lines + YEAST, HEAD + others + YEAST)


class Like(LikeCase):
    def test_the_same(self):
        for lines in (PLAIN, HEAD + YEAST, recipe_of(1, 1, 0), recipe_of(1, 0, 1), recipe_of(16, 16, 16)):
            self.check(1, lines, lines)

    def test_another_name_of_the_recipe(self):
        self.check(1, PLAIN, ["recipe other"] + PLAIN[1:])
        self.check(1, HEAD + YEAST, ["recipe a"] + HEAD[1:] + YEAST)

    def test_the_same_lines_in_another_order(self):
        self.check(1, PLAIN, [PLAIN[k] for k in (0, 2, 1, 3, 5, 4, 7, 6, 8)])
        self.check_malts(1, ["malt a 1 2", "malt b 3 4", "malt c 5 6"], ["malt c 5 6", "malt a 1 2", "malt b 3 4"])
        self.check_behind_malts(1, ["hop a 1 2 9", "hop b 3 4 9", "hop c 5 6 9"],
                                ["hop b 3 4 9", "hop c 5 6 9", "hop a 1 2 9"])
        self.check_behind_malts(1, ["add a 1", "add b 2", "add c 3"], ["add c 3", "add b 2", "add a 1"])

    def test_the_same_shares_by_other_parts(self):
        self.check_malts(1, ["malt a 1 800"], ["malt a 10000 800"])
        self.check_malts(1, ["malt a 1 800"], ["malt a 7 800"])
        self.check_malts(1, ["malt a 1 800", "malt b 2 800"], ["malt a 5000 800", "malt b 10000 800"])
        self.check_malts(1, ["malt a 2 8", "malt b 4 9", "malt c 6 7"], ["malt c 9 7", "malt b 6 9", "malt a 3 8"])
        self.check_behind_malts(1, ["hop a 1 2 3"], ["hop a 9999 2 3"])
        self.check_behind_malts(1, ["hop a 4 2 3", "hop b 6 2 3"], ["hop a 6 2 3", "hop b 9 2 3"])
        # Malts by one number and hops by another.
        self.check(1, ["recipe r", "malt a 1 1", "malt b 3 1", "hop a 2 1 1", "hop b 5 1 1", "add a 6", "yeast 1"],
                   ["recipe r", "malt a 2 1", "malt b 6 1", "hop a 14 1 1", "hop b 35 1 1", "add a 6", "yeast 1"])

    def test_sixteen_of_each(self):
        lines = recipe_of(16, 16, 16)
        self.check(1, lines, lines[:1] + lines[16:0:-1] + lines[32:16:-1] + lines[48:32:-1] + lines[49:])
        parts = [line.replace(" 1 ", " 625 ") if k < 33 else line for k, line in enumerate(lines)]
        self.check(1, lines, parts)
        for k in range(1, 49):
            kind, name, *numbers = lines[k].split(" ")
            for place in range(2 if kind == "hop" else len(numbers)):
                more = numbers[:place] + [str(int(numbers[place]) + 1)] + numbers[place + 1:]
                self.check(0, lines, lines[:k] + [" ".join([kind, name] + more)] + lines[k + 1:])
        for k in range(17, 33):
            # Boiled less than the others, so it stands behind them.
            later = lines[k].replace(" 60", " 59")
            self.check(0, lines, lines[:k] + lines[k + 1:33] + [later] + lines[33:])


class NotLike(LikeCase):
    def test_another_yeast(self):
        for turned in (1, 779, 781, 950):
            self.check(0, PLAIN, PLAIN[:-1] + ["yeast %d" % turned])
            self.check(0, PLAIN, ["recipe other"] + PLAIN[1:-1] + ["yeast %d" % turned])

    def test_the_same_names_with_other_numbers(self):
        for place, line in ((1, "malt pils 90 801"), (1, "malt pils 91 800"), (1, "malt pils 45 800"),
                            (2, "malt wheat 10 819"), (2, "malt wheat 11 820"), (3, "hop saaz 1 350 60"),
                            (3, "hop saaz 2 351 60"), (3, "hop saaz 2 350 61"), (3, "hop saaz 2 350 59"),
                            (4, "hop saaz 4 350 10"), (4, "hop saaz 3 349 10"), (4, "hop saaz 3 350 11"),
                            (6, "add gypsum 21"), (6, "add gypsum 40"), (7, "add salt 4")):
            self.check(0, PLAIN, PLAIN[:place] + [line] + PLAIN[place + 1:])

    def test_the_same_numbers_with_other_names(self):
        for place, line in ((1, "malt pilz 90 800"), (2, "malt whea 10 820"), (3, "hop saazs 2 350 60"),
                            (5, "hop h 1 300 10"), (6, "add gypsum1 20"), (7, "add 5alt 5")):
            self.check(0, PLAIN, PLAIN[:place] + [line] + PLAIN[place + 1:])

    def test_numbers_that_change_places(self):
        self.check_malts(0, ["malt a 1 800", "malt b 2 800"], ["malt a 2 800", "malt b 1 800"])
        self.check_malts(0, ["malt a 1 800", "malt b 1 700"], ["malt a 1 700", "malt b 1 800"])
        self.check_malts(0, ["malt a 3 7"], ["malt a 7 3"])
        self.check_malts(0, ["malt a 1 2", "malt b 2 1"], ["malt a 2 1", "malt b 1 2"])
        self.check_behind_malts(0, ["hop a 1 5 9", "hop b 1 6 9"], ["hop a 1 6 9", "hop b 1 5 9"])
        self.check_behind_malts(0, ["hop a 1 5 9", "hop b 1 5 8"], ["hop b 1 5 9", "hop a 1 5 8"])
        self.check_behind_malts(0, ["hop a 1 5 9"], ["hop a 1 9 5"])
        self.check_behind_malts(0, ["add a 1", "add b 2"], ["add a 2", "add b 1"])

    def test_shares_that_lie_close_by(self):
        self.check_malts(0, ["malt a 10000 800", "malt b 9999 800"], ["malt a 9999 800", "malt b 9998 800"])
        self.check_malts(0, ["malt a 10000 800", "malt b 1 800"], ["malt a 9999 800", "malt b 1 800"])
        self.check_malts(0, ["malt a 10000 800", "malt b 9999 800"], ["malt a 1 800", "malt b 1 800"])
        self.check_behind_malts(0, ["hop a 9999 1 1", "hop b 1 1 1"], ["hop a 10000 1 1", "hop b 1 1 1"])
        self.check_behind_malts(0, ["hop a 5000 1 1", "hop b 4999 1 1"], ["hop a 4999 1 1", "hop b 4998 1 1"])

    def test_shares_the_same_of_some_only(self):
        self.check_malts(0, ["malt a 2 8", "malt b 1 8", "malt c 1 8"], ["malt a 4 8", "malt b 1 8", "malt c 3 8"])
        self.check_behind_malts(0, ["hop a 2 8 0", "hop b 1 8 0", "hop c 1 8 0"],
                                ["hop a 4 8 0", "hop b 3 8 0", "hop c 1 8 0"])

    def test_adds_are_held_by_grams_not_by_shares(self):
        self.check_behind_malts(0, ["add a 1"], ["add a 2"])
        self.check_behind_malts(0, ["add a 1", "add b 3"], ["add a 2", "add b 6"])
        self.check_behind_malts(0, ["add a 100000"], ["add a 99999"])

    def test_recipes_of_other_lengths(self):
        for place in (1, 2, 3, 4, 5, 6, 7):
            self.check(0, PLAIN, PLAIN[:place] + PLAIN[place + 1:])
        for line, place in (("malt b 1 1", 1), ("malt b 90 800", 2), ("hop b 1 1 60", 3), ("hop b 1 300 10", 6),
                            ("add b 1", 6), ("add b 5", 8)):
            self.check(0, PLAIN, PLAIN[:place] + [line] + PLAIN[place:])
        for counts in ((2, 1, 1), (1, 2, 1), (1, 1, 2), (1, 0, 1), (1, 1, 0), (1, 0, 0), (16, 1, 1), (1, 16, 16)):
            self.check(0, recipe_of(1, 1, 1), recipe_of(*counts))
        # A line more, and the shares of the others as they were.
        self.check_behind_malts(0, ["hop a 1 1 5"], [])
        self.check_behind_malts(0, adds(16), adds(15))

    def test_one_more_here_and_one_more_there(self):
        self.check(0, recipe_of(2, 1, 1), recipe_of(1, 2, 1))
        self.check(0, recipe_of(1, 2, 1), recipe_of(1, 1, 2))


class LikeNames(LikeCase):
    def test_a_malt_and_a_hop_and_an_add_of_one_name(self):
        lines = ["recipe a", "malt a 1 2", "malt b 3 4", "hop a 5 6 7", "hop b 8 9 7", "add a 1", "add b 2", "yeast 1"]
        self.check(1, lines, [lines[k] for k in (0, 2, 1, 4, 3, 6, 5, 7)])
        self.check(1, lines, lines[:3] + ["hop a 10 6 7", "hop b 16 9 7"] + lines[5:])
        self.check(0, lines, lines[:3] + ["hop a 8 9 7", "hop b 5 6 7"] + lines[5:])
        self.check(0, lines, ["recipe a", "malt b 1 2", "malt a 3 4"] + lines[3:])
        self.check(0, lines, lines[:5] + ["add a 2", "add b 1", "yeast 1"])

    def test_a_line_of_another_kind(self):
        self.check(0, ["recipe r", "malt a 1 1", "malt b 1 1", "yeast 1"],
                   ["recipe r", "malt a 1 1", "hop b 1 1 0", "yeast 1"])
        self.check(0, ["recipe r", "malt a 1 1", "hop b 1 1 0", "yeast 1"],
                   ["recipe r", "malt a 1 1", "add b 1", "yeast 1"])

    def test_a_hop_of_one_name_with_two_times_of_boiling(self):
        lines = ["hop a 1 10 60", "hop a 2 20 5"]
        self.check_behind_malts(1, lines, ["hop a 2 10 60", "hop a 4 20 5"])
        self.check_behind_malts(0, lines, ["hop a 2 10 60", "hop a 1 20 5"])
        self.check_behind_malts(0, lines, ["hop a 1 20 60", "hop a 2 10 5"])
        self.check_behind_malts(0, lines, ["hop a 2 20 60", "hop a 1 10 5"])
        self.check_behind_malts(0, lines, ["hop a 1 10 60", "hop a 2 20 6"])
        self.check_behind_malts(0, lines, ["hop a 1 10 60", "hop b 2 20 5"])
        self.check_behind_malts(0, lines, ["hop a 3 10 60"])
        # Both times of one name among others, and in another order.
        self.check_behind_malts(1, ["hop a 1 1 9", "hop b 2 1 9", "hop b 3 1 8", "hop a 4 1 8"],
                                ["hop b 4 1 9", "hop a 2 1 9", "hop a 8 1 8", "hop b 6 1 8"])

    def test_one_name_begins_with_another(self):
        self.check_malts(0, ["malt a 1 1", "malt ab 2 2"], ["malt ab 1 1", "malt a 2 2"])
        self.check_malts(1, ["malt a 1 1", "malt ab 2 2", "malt a0 3 3"], ["malt a0 3 3", "malt ab 2 2", "malt a 1 1"])


class Refused(unittest.TestCase):
    def test_the_first(self):
        for text, refusal in REFUSED:
            self.assertEqual(like(text, text_of(PLAIN)), refusal)

    def test_the_second(self):
        for text, refusal in REFUSED:
            there = refusal if refusal == [-2] else refusal[:2] + [refusal[2] + 16]
            self.assertEqual(like(text_of(PLAIN), text), there)
        self.assertEqual(like(text_of(PLAIN), []), [-6, 0, 19])
        self.assertEqual(like(text_of(PLAIN), coded("water\n")), [-6, 0, 17])
        self.assertEqual(like(text_of(PLAIN), text_of(PLAIN[:2] + PLAIN[1:])), [-6, 2, 20])
        self.assertEqual(like(text_of(PLAIN), text_of(recipe_of(17, 0, 0))), [-6, 17, 18])

    def test_both(self):
        for text, refusal in REFUSED:
            for other, there in REFUSED:
                self.assertEqual(like(text, other), [-2] if [-2] in (refusal, there) else refusal)

    def test_more_than_16384_bytes_before_a_fault_of_the_other(self):
        short = text_of(PLAIN)[:-1]
        for length, answer in ((16384, None), (16385, [-2]), (40000, [-2])):
            long = (text_of(PLAIN) + [10] * 40000)[:length]
            self.assertEqual(like(long, short), answer or [-6, 9, 1])
            self.assertEqual(like(short, long), answer or [-6, 8, 1])
            self.assertEqual(like(long, text_of(PLAIN)), answer or [-6, 9, 1])
            self.assertEqual(like(text_of(PLAIN), long), answer or [-6, 9, 17])
            self.assertEqual(like(long, long), answer or [-6, 9, 1])

    def test_each_of_at_most_16384_bytes_though_both_together_are_more(self):
        text = text_of(PLAIN) + [10] * 9000
        self.assertEqual(like(text, text), [-6, 9, 1])
        self.assertEqual(like(text_of(PLAIN), text), [-6, 9, 17])


if __name__ == "__main__":
    unittest.main()
