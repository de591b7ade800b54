"""Promise 3: malts' parts, or hops', all multiplied by one number change nothing of what is answered."""
import unittest

from brewrecipes.recipes import like, malt, scale, tells
from tests.helper import Draws, recipe_drawn, recipe_of_parts, text_of

MOST = 10000000


def times(parts, number):
    return [p * number for p in parts]


def most_parts(lines, kind):
    """The greatest parts of a kind; 1 where there is none of it."""
    return max([int(line.split(" ")[2]) for line in lines if line.startswith(kind + " ")], default=1)


def multiplied(lines, more, again):
    """The text of a recipe with its malts' parts times one number, its hops' times another."""
    told = []
    for line in lines:
        kind, name, *numbers = line.split(" ")
        if kind in ("malt", "hop"):
            numbers[0] = str(int(numbers[0]) * (more if kind == "malt" else again))
        told.append(" ".join([kind, name] + numbers))
    return text_of(told)


def all_multiplied(lines):
    """The recipe with parts times 1, 2, 3 and so on, malts' and hops' each and both, as far as parts go."""
    malts, hops = most_parts(lines, "malt"), most_parts(lines, "hop")
    return [multiplied(lines, more, again)
            for more in sorted({1, 2, 3, 10000 // malts}) for again in sorted({1, 2, 7, 10000 // hops})
            if more * malts <= 10000 and again * hops <= 10000]


class PartsMultiplied(unittest.TestCase):
    def check(self, lines, batch, others=()):
        """What scale, tells and malt answer of a batch, and like of each multiplied one with each of the others."""
        plain = text_of(lines)
        grams, told = scale(*batch, plain), tells(*batch, plain)
        # More than any malt gives, the batch's own gravity, and a little more of it, as far as such numbers go.
        gravities = [[850 * MOST // batch[0] + 1, 1], told[1:3], [told[1] + 1, told[2]]]
        gravities = [gravity for gravity in gravities if gravity[0] <= 4294967295]
        needs = [malt(batch[0], *gravity, plain) for gravity in gravities]
        held = [(other, like(plain, other), like(other, plain)) for other in others]
        self.assertEqual((grams[0], told[0], needs[0]), (0, 0, [-3]))
        for text in all_multiplied(lines):
            with self.subTest(text=bytes(text), batch=batch):
                self.assertEqual(scale(*batch, text), grams)
                self.assertEqual(tells(*batch, text), told)
                self.assertEqual([malt(batch[0], *gravity, text) for gravity in gravities], needs)
                self.assertEqual(like(text, plain), [1])
                self.assertEqual(like(plain, text), [1])
                for other, there, back in held:
                    self.assertEqual(like(text, other), there)
                    self.assertEqual(like(other, text), back)

    def drawn_batch(self, draws, lines):
        most = draws.between(0, MOST)
        hops = draws.between(0, most) if any(line.startswith("hop ") for line in lines) else 0
        return draws.between(2, MOST), draws.between(0, most), hops

    def test_many_recipes(self):
        draws = Draws(4)
        for k in range(250):
            lines = recipe_drawn(draws, 3000)
            self.check(lines, self.drawn_batch(draws, lines))

    def test_many_recipes_held_against_others(self):
        draws = Draws(10)
        for k in range(40):
            lines = recipe_drawn(draws, 3000)
            # One that is like it but for its name, one with another yeast, one that is all another, and no recipe.
            others = [text_of(["recipe other"] + lines[1:]), text_of(lines[:-1] + ["yeast 950"]),
                      text_of(recipe_drawn(draws)), text_of(lines[:-1])]
            self.check(lines, self.drawn_batch(draws, lines), others)

    def test_small_recipes(self):
        for malts, hops in (([1], [1]), ([1, 1, 1], [1, 1]), ([1, 2, 3], [3, 2, 1]), ([1] * 16, [1] * 16),
                            ([5000, 1], [1, 5000]), ([3, 7, 11], [2, 4, 6])):
            lines = bytes(recipe_of_parts(malts, hops, [7])).decode().splitlines()
            for weight in (0, 1, 2, 3, 4, 5, 100, 9999999, MOST):
                self.check(lines, (12345, weight, weight))

    def test_written_out(self):
        plain = recipe_of_parts([1, 2, 3], [1, 1])
        for number in (1, 2, 10, 1000, 3333):
            text = recipe_of_parts(times([1, 2, 3], number), times([1, 1], number))
            self.assertEqual(scale(1, 10, 3, text), [0, 2, 3, 5, 2, 1])
            # Extract 10 times 800; hops 3 times 300 times 330; strength 8000 times 750 times 51 / 1,000,000.
            self.assertEqual(tells(1, 10, 3, text), [0, 8000, 1, 297000, 1, 306, 1])
            self.assertEqual(malt(1, 8000, 1, text), [0, 10])
            self.assertEqual(malt(1, 8001, 1, text), [0, 11])
            self.assertEqual(like(text, plain), [1])


if __name__ == "__main__":
    unittest.main()
