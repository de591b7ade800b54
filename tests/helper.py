"""Texts for the tests, and a second judge, scaler and teller, written another way, to hold the program against."""
import functools
import re
import time
from fractions import Fraction

from brewrecipes.recipes import judge, like, line, malt, scale, sizes, tells

PLAIN = [
    "recipe pale1",
    "malt pils 90 800",
    "malt wheat 10 820",
    "hop saaz 2 350 60",
    "hop saaz 3 350 10",
    "hop hersb 1 300 10",
    "add gypsum 20",
    "add salt 5",
    "yeast 780",
]

NAMES = ["n%d" % k for k in range(17)]

MOST_GRAMS = 10000000
GREATEST = 4294967295
MOST_SECONDS = 2


# Every call as one of a text alone, with other arguments that are right, and that would be refused by themselves. Of
# like the first text; what the second one's refusal is is another.
CALLS = {
    "judge": judge,
    "sizes": sizes,
    "line": lambda text: line(0, text),
    "line beyond": lambda text: line(4294967295, text),
    "scale": lambda text: scale(100000, 20000, 0, text),
    "scale beyond": lambda text: scale(0, 4294967295, 4294967295, text),
    "tells": lambda text: tells(100000, 20000, 0, text),
    "tells beyond": lambda text: tells(0, 4294967295, 4294967295, text),
    "malt": lambda text: malt(100000, 1, 10, text),
    "malt beyond": lambda text: malt(0, 4294967295, 0, text),
    "like": lambda text: like(text, text_of(PLAIN)),
    "like beyond": lambda text: like(text, []),
    "like itself": lambda text: like(text, text),
}


def coded(words):
    """The list of bytes of a text told as str or bytes."""
    return list(words.encode("latin-1") if isinstance(words, str) else words)


def text_of(lines):
    """The list of bytes of these lines, a line feed behind each."""
    return coded("".join(line + "\n" for line in lines))


def malts(count):
    return ["malt %s 1 800" % name for name in NAMES[:count]]


def hops(count):
    return ["hop %s 1 300 60" % name for name in NAMES[:count]]


def adds(count):
    return ["add %s 1" % name for name in NAMES[:count]]


def recipe_of(malt_count, hop_count, add_count):
    return ["recipe r"] + malts(malt_count) + hops(hop_count) + adds(add_count) + ["yeast 750"]


# Texts that every call refuses, one for each refusal and why, and what it answers.
REFUSED = [
    ([], [-6, 0, 3]),
    (text_of(PLAIN)[:-1], [-6, 8, 1]),
    (text_of(PLAIN[:8]), [-6, 8, 3]),
    (text_of(PLAIN[:2] + PLAIN[1:]), [-6, 2, 4]),
    (text_of(recipe_of(17, 1, 1)), [-6, 17, 2]),
    (text_of(recipe_of(1, 17, 1)), [-6, 18, 2]),
    (text_of(PLAIN) * 200, [-2]),
]


class Draws:
    """Numbers that look drawn by lot and are the same in every run."""

    def __init__(self, start):
        self.state = start

    def between(self, least, most):
        self.state = (self.state * 6364136223846793005 + 1442695040888963407) % 2 ** 64
        return least + (self.state >> 24) % (most - least + 1)

    def parts(self, most_count, most):
        """1 to so many parts, each at most the given most, which is itself drawn small now and then."""
        most = min(most, self.between(1, 10) if self.between(0, 1) else most)
        return [self.between(1, most) for k in range(self.between(1, most_count))]


def recipe_drawn(draws, most_parts=10000):
    """The lines of a recipe with everything drawn."""
    lines = ["recipe r"]
    lines += ["malt m%d %d %d" % (k, p, draws.between(1, 850)) for k, p in enumerate(draws.parts(16, most_parts))]
    if draws.between(0, 3):
        parts = draws.parts(16, most_parts)
        minutes = sorted([draws.between(0, 120) for p in parts], reverse=True)
        for k, (p, t) in enumerate(zip(parts, minutes)):
            # Several hops of one name, but not with the same minutes.
            name = k if minutes.count(t) > 1 else k % 5
            lines.append("hop h%d %d %d %d" % (name, p, draws.between(1, 2500), t))
    if draws.between(0, 3):
        lines += ["add a%d %d" % (k, g) for k, g in enumerate(draws.parts(16, 100000))]
    return lines + ["yeast %d" % draws.between(1, 950)]


def recipe_of_parts(malt_parts, hop_parts, add_grams=()):
    lines = ["recipe r"]
    lines += ["malt m%d %d 800" % (k, p) for k, p in enumerate(malt_parts)]
    lines += ["hop h%d %d 300 %d" % (k, p, 120 - k) for k, p in enumerate(hop_parts)]
    lines += ["add a%d %d" % (k, g) for k, g in enumerate(add_grams)]
    return text_of(lines + ["yeast 750"])


def recipe_of_malts(*rows):
    """A recipe of malts alone, each told by its parts and extract."""
    return text_of(["recipe r"] + ["malt m%d %d %d" % (k, p, x) for k, (p, x) in enumerate(rows)] + ["yeast 750"])


class Unchangeable(list):
    """A list that tells at once of a change, even one that would be taken back."""

    def refuse(self, *args, **kwargs):
        raise AssertionError("what was handed in was changed")

    append = clear = extend = insert = pop = remove = reverse = sort = refuse
    __setitem__ = __delitem__ = __iadd__ = __imul__ = refuse


NUMBER = rb"(0|[1-9][0-9]*)"
NAME = rb"([a-z0-9]{1,12})"
FORMS = {
    "r": (re.compile(rb"recipe " + NAME), []),
    "m": (re.compile(rb"malt " + NAME + rb" " + NUMBER + rb" " + NUMBER), [(1, 10000), (1, 850)]),
    "h": (re.compile(rb"hop " + NAME + (rb" " + NUMBER) * 3), [(1, 10000), (1, 2500), (0, 120)]),
    "a": (re.compile(rb"add " + NAME + rb" " + NUMBER), [(1, 100000)]),
    "y": (re.compile(rb"yeast()" + rb" " + NUMBER), [(1, 950)]),
}
ORDER_SO_FAR = re.compile(r"(r(m+(h*|h*a+|h*a*y))?)?")


def formed(line):
    """(kind, name, numbers) of a line's bytes, None if it isn't formed. For words of less than 4,300 digits."""
    for kind, (form, bounds) in FORMS.items():
        match = form.fullmatch(line)
        if match:
            numbers = [int(digits) for digits in match.groups()[1:]]
            if all(least <= n <= most for n, (least, most) in zip(numbers, bounds)):
                return kind, match.group(1), numbers
    return None


def reasons(row, earlier):
    """All the reasons that hold of a formed line behind right ones."""
    kind, name, numbers = row
    like_kind = [other for other in earlier if other[0] == kind]
    found = set()
    if not ORDER_SO_FAR.fullmatch("".join(other[0] for other in earlier) + kind):
        found.add(3)
    if kind in "ma" and any(other[1] == name for other in like_kind):
        found.add(4)
    if kind == "h" and any(other[1] == name and other[2][2] == numbers[2] for other in like_kind):
        found.add(4)
    if kind == "h" and like_kind and like_kind[-1][2][2] < numbers[2]:
        found.add(4)
    if kind in "mha" and len(like_kind) >= 16:
        found.add(2)
    return found


def second_judge(text):
    """What judge and sizes must answer of a text of at most 16,384 bytes, as a pair."""
    *lines, rest = bytes(text).split(b"\n")
    earlier = []
    for number, line in enumerate(lines):
        row = formed(line)
        found = {1} if row is None else reasons(row, earlier)
        for why in (1, 3, 4, 2):
            if why in found:
                return [-6, number, why], [-6, number, why]
        earlier.append(row)
    kinds = [row[0] for row in earlier]
    if rest:
        return [-6, len(lines), 1], [-6, len(lines), 1]
    if "y" not in kinds:
        return [-6, len(lines), 3], [-6, len(lines), 3]
    return [0], [0, kinds.count("m"), kinds.count("h"), kinds.count("a")]


def second_scaled(parts, weight):
    """The grams of each of these parts: gram by gram to the one who is furthest below its share, the first of like."""
    shares = [Fraction(weight * p, sum(parts)) for p in parts]
    grams = [int(share) for share in shares]
    while sum(grams) < weight:
        lacks = [share - gram for share, gram in zip(shares, grams)]
        grams[lacks.index(max(lacks))] += 1
    return grams


def second_add(grams, ml):
    """The grams of an add in so many millilitres."""
    exact = Fraction(grams * ml, 100000)
    whole = exact.numerator // exact.denominator
    return whole + 1 if exact - whole >= Fraction(1, 2) else whole


def rows_of(text, kind):
    """(name, numbers) of every line of a kind of a right recipe."""
    rows = [formed(line) for line in bytes(text).split(b"\n")[:-1]]
    return [(name, numbers) for other, name, numbers in rows if other == kind]


def second_use(minutes):
    """The thousandths that come to use, added up minute by minute."""
    use = 0
    for minute in range(minutes):
        use += 5 if minute < 60 else 1 if minute < 90 else 0
    return use


def second_tells(ml, malt, hops, text):
    """Gravity, bitterness and strength of a batch of a right recipe, as fractions."""
    gravity = bitterness = Fraction(0)
    rows = rows_of(text, "m")
    for grams, (name, (p, x)) in zip(second_scaled([row[1][0] for row in rows], malt), rows):
        gravity += Fraction(grams * x, ml)
    rows = rows_of(text, "h")
    for grams, (name, (p, a, t)) in zip(second_scaled([row[1][0] for row in rows], hops) if rows else [], rows):
        bitterness += Fraction(grams * a * second_use(t), ml)
    [(name, [turned])] = rows_of(text, "y")
    return [gravity, bitterness, gravity * turned * 51 / 1000000]


def second_like(text, other):
    """Whether two right recipes are like: each line of the one finds its fellow in the other, and none is left."""
    for kind in "ymha":
        rows, fellows = rows_of(text, kind), rows_of(other, kind)
        together = sum(numbers[0] for name, numbers in rows)
        together_there = sum(numbers[0] for name, numbers in fellows)
        for name, numbers in rows:
            for fellow in fellows:
                if kind in "mh":
                    same = numbers[0] * together_there == fellow[1][0] * together
                else:
                    same = numbers[0] == fellow[1][0]
                if same and fellow[0] == name and fellow[1][1:] == numbers[1:]:
                    fellows.remove(fellow)
                    break
            else:
                return False
        if fellows:
            return False
    return True


def quick_malt(ml, n, d, text):
    """What malt answers, and that it does so within a short time."""
    start = time.perf_counter()
    answer = malt(ml, n, d, text)
    took = time.perf_counter() - start
    if took > MOST_SECONDS:
        raise AssertionError("malt took %.1f seconds: %r" % (took, (ml, n, d, bytes(text))))
    return answer


def extracts_of(text, weights):
    """The extract of each of these weights of a right recipe's malts."""
    rows = [numbers for name, numbers in rows_of(text, "m")]
    together = sum(p for p, x in rows)
    extracts = []
    for weight in weights:
        ranked = sorted((-(weight * p % together), k) for k, (p, x) in enumerate(rows))
        left = -sum(fraction for fraction, k in ranked) // together
        more = sum(rows[k][1] for fraction, k in ranked[:left])
        extracts.append(more + sum(weight * p // together * x for p, x in rows))
    return extracts


@functools.lru_cache(maxsize=None)
def extracts_by_remainder(text):
    """The parts together, what so many grams of malt give, and what every lesser weight gives."""
    rows = [numbers for name, numbers in rows_of(text, "m")]
    together = sum(p for p, x in rows)
    return together, sum(p * x for p, x in rows), extracts_of(text, range(together))


def second_malt(text, needed):
    """The least weight of malt, however great, that gives the extract needed.

    With as many grams more as there are parts, each malt has just its parts more. So of all the weights that leave the
    same remainder the least is told by the first one's extract, and going through the remainders is going through all.
    """
    together, of_parts, extracts = extracts_by_remainder(bytes(text))
    rounds = [max(0, -((extract - needed) // of_parts)) for extract in extracts]
    return min(count * together + rest for rest, count in enumerate(rounds))


def greatest_extract(text):
    """The greatest extract that malts of at most 10,000,000 grams give; not always that of the greatest weight."""
    together, of_parts, extracts = extracts_by_remainder(bytes(text))
    return max(extract + (MOST_GRAMS - rest) // together * of_parts
               for rest, extract in enumerate(extracts[:MOST_GRAMS + 1]))


def asked(needed):
    """Millilitres, n and d that ask for just this extract, that is ml n / d rounded up; for one below twice GREATEST."""
    if needed <= GREATEST:
        return 1, needed, 1
    for d in range(1, 1000):
        ml = 2 * d + 1
        n = needed * d // ml
        if -(-ml * n // d) == needed:
            return ml, n, d
    raise AssertionError("no n / d found for %d" % needed)
