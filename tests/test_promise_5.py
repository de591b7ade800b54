"""Promise 5: like is an equivalence. Many recipes, each held against each."""
import itertools
import unittest

from brewrecipes.recipes import judge, like
from tests.helper import Draws, recipe_drawn, second_like, text_of


def shuffled(draws, rows):
    rows = list(rows)
    return [rows.pop(draws.between(0, len(rows) - 1)) for k in range(len(rows))]


def by_kind(lines, kind):
    return [line for line in lines if line.startswith(kind + " ")]


def minutes_of(line):
    return int(line.split(" ")[4])


def with_number(line, place, change):
    """A line whose number at a place (from 2 on, behind kind and name) is changed."""
    words = line.split(" ")
    words[place] = str(change(int(words[place])))
    return " ".join(words)


def told_otherwise(draws, lines):
    """A recipe that is like this one: another name and order, parts by another number."""
    more, again = draws.between(1, 3), draws.between(1, 3)
    malts = [with_number(line, 2, lambda p: p * more) for line in by_kind(lines, "malt")]
    hops = [with_number(line, 2, lambda p: p * again) for line in by_kind(lines, "hop")]
    hops = sorted(shuffled(draws, hops), key=minutes_of, reverse=True)
    name = ["recipe r%d" % draws.between(0, 9)]
    return name + shuffled(draws, malts) + hops + shuffled(draws, by_kind(lines, "add")) + by_kind(lines, "yeast")


def changed_a_little(draws, lines):
    """A recipe with one number more or less by one, or a line left out, if it's still a recipe, else itself."""
    k = draws.between(1, len(lines) - 1)
    step = draws.between(0, 1) * 2 - 1
    changed = with_number(lines[k], draws.between(2, len(lines[k].split(" ")) - 1) if k < len(lines) - 1 else 1,
                          lambda number: number + step)
    other = lines[:k] + ([changed] if draws.between(0, 3) else []) + lines[k + 1:]
    return other if judge(text_of(other)) == [0] else lines


class Equivalence(unittest.TestCase):
    def check(self, texts):
        """Each with itself; one way and the other; from one by another to a third. Gives back how many are like."""
        answers = [[like(text, other) for other in texts] for text in texts]
        places = range(len(texts))
        for k in places:
            self.assertEqual(answers[k][k], [1], bytes(texts[k]))
            for m in places:
                self.assertIn(answers[k][m], ([0], [1]))
                self.assertEqual(answers[k][m], answers[m][k], (bytes(texts[k]), bytes(texts[m])))
                if k < m:
                    self.assertEqual(answers[k][m], [int(second_like(texts[k], texts[m]))])
                if answers[k][m] == [1]:
                    # Whoever is like the one is like the other, and whoever isn't isn't.
                    self.assertEqual(answers[k], answers[m], (bytes(texts[k]), bytes(texts[m])))
        return sum(row.count([1]) for row in answers)

    def test_many_recipes(self):
        draws = Draws(7)
        like_ones = 0
        for k in range(80):
            lines = recipe_drawn(draws, 3000)
            other = changed_a_little(draws, lines)
            recipes = [lines, other, recipe_drawn(draws, 3000)]
            recipes += [told_otherwise(draws, lines) for m in range(3)] + [told_otherwise(draws, other)]
            like_ones += self.check([text_of(told) for told in recipes])
            self.assertEqual([like(text_of(lines), text_of(told)) for told in recipes[3:6]], [[1]] * 3)
        # Each time at least four that are like and two more, and not everything.
        self.assertGreaterEqual(like_ones, 80 * (16 + 4 + 1))
        self.assertLess(like_ones, 80 * (16 + 4 + 1) * 3 // 2)

    def test_chains_of_little_changes(self):
        draws = Draws(8)
        for k in range(25):
            chain = [recipe_drawn(draws, 3000)]
            for m in range(9):
                chain.append(changed_a_little(draws, chain[-1]))
            self.check([text_of(lines) for lines in chain])

    def test_parts_that_lie_close_by(self):
        recipes = [["recipe r", "malt a %d 800" % p, "malt b %d 800" % q, "hop a 1 1 %d" % t, "yeast 750"]
                   for p in range(9990, 10001, 2) for q in (4995, 4999, 5000, 9999) for t in (0, 1)]
        self.assertLess(self.check([text_of(lines) for lines in recipes]), len(recipes) * 2)

    def test_all_small_recipes(self):
        malts = [["malt a %d 5" % p, "malt b %d %d" % (q, x)] for p in (1, 2) for q in (1, 2, 4) for x in (5, 6)]
        malts += [["malt a 1 5"], ["malt a 2 5"], ["malt b 1 5"], ["malt b 1 5", "malt a 1 5"]]
        behind = [[], ["hop a 1 1 1"], ["hop a 2 1 1"], ["hop a 1 1 1", "hop a 1 1 0"], ["add a 1"], ["add a 2"],
                  ["hop b 1 1 1", "add a 1"]]
        recipes = [["recipe r", *first, *rest, "yeast 5"] for first, rest in itertools.product(malts, behind)]
        self.check([text_of(lines) for lines in recipes])


if __name__ == "__main__":
    unittest.main()
