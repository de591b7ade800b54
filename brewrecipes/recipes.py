"""Recipes: a text is read up to its first fault; a batch is scaled from it, and told what it comes to."""

MOST_BYTES = 16384
MOST_OF_A_KIND = 16
MOST_NAME_SIGNS = 12
# No bound has more digits; a longer word is never handed to int, which refuses words of some thousand digits.
MOST_DIGITS = 6

LETTERS = "abcdefghijklmnopqrstuvwxyz"
DIGITS = "0123456789"
# Stands for every byte that no formed line holds, so that one sign spoils a word as well as another.
OTHER = "?"

UNFORMED = 1
TOO_MUCH = 2
CANNOT_STAND = 3
CLASHES = 4

# The least and the most of each number, in the order in which they stand in a line of that kind.
BOUNDS = {
    "recipe": (),
    "malt": ((1, 10000), (1, 850)),
    "hop": ((1, 10000), (1, 2500), (0, 120)),
    "add": ((1, 100000),),
    "yeast": ((1, 950),),
}

# The kinds that the line before may be of; "" is before the first line.
MAY_FOLLOW = {
    "recipe": ("",),
    "malt": ("recipe", "malt"),
    "hop": ("malt", "hop"),
    "add": ("malt", "hop", "add"),
    "yeast": ("malt", "hop", "add"),
}

# What line tells of a row's kind; they are told in this order.
KIND_NUMBERS = {"malt": 0, "hop": 1, "add": 2}
NUMBERS_TOLD = 3

# Where a malt's or a hop's parts stand among its numbers, a malt's extract, a hop's acid and minutes, an add's grams
# and how much the yeast turns.
PARTS = 0
EXTRACT = 1
ACID = 1
MINUTES = 2
GRAMS = 0
TURNED = 0

MOST_ML = 10000000
MOST_GRAMS = 10000000
ML_IN_HECTOLITRE = 100000

# Up to here every minute of boiling brings five thousandths of a hop to use, from here on one, up to the most.
SLOW_MINUTES = 60
MOST_USE = 330

# Strength is gravity times what the yeast turns, times the one, divided by the other.
STRENGTH_ABOVE = 51
STRENGTH_BELOW = 1000000

# What is added to why where the second of two texts has the fault.
OF_SECOND = 16


class Row:
    """A formed line: its kind, its name ("" for the yeast) and its numbers."""

    def __init__(self, kind, name, numbers):
        self.kind = kind
        self.name = name
        self.numbers = numbers


class Reading:
    """What a text tells: its rows by kind, and the refusal that it earns, [] if it is a recipe."""

    def __init__(self):
        self.rows = {"recipe": [], "malt": [], "hop": [], "add": [], "yeast": []}
        self.refusal = []


def sign_of(byte):
    """Give back the sign that a byte stands for."""
    if byte == ord("\n"):
        return "\n"
    if byte == ord(" "):
        return " "
    if ord("0") <= byte <= ord("9"):
        return DIGITS[byte - ord("0")]
    if ord("a") <= byte <= ord("z"):
        return LETTERS[byte - ord("a")]
    return OTHER


def spell(text):
    """Give back a text's bytes as signs."""
    return "".join([sign_of(byte) for byte in text])


def is_made_of(word, signs):
    """Tell whether a word holds nothing but these signs."""
    for sign in word:
        if sign not in signs:
            return False
    return True


def is_name(word):
    """Tell whether a word is formed as a name."""
    return 1 <= len(word) <= MOST_NAME_SIGNS and is_made_of(word, LETTERS + DIGITS)


def is_number(word):
    """Tell whether a word is formed as a number that could lie within some bounds."""
    if not 1 <= len(word) <= MOST_DIGITS or not is_made_of(word, DIGITS):
        return False
    return word == "0" or word[0] != "0"


def numbers_in(words, kind):
    """Give back the numbers that words write, or None if one is not formed or out of its bounds for that kind."""
    numbers = []
    for word, bound in zip(words, BOUNDS[kind]):
        if not is_number(word) or not bound[0] <= int(word) <= bound[1]:
            return None
        numbers.append(int(word))
    return numbers


def row_of(signs):
    """Give back the row that a line's signs form, or None if it is not formed."""
    words = signs.split(" ")
    kind = words[0]
    if kind not in BOUNDS:
        return None
    names = 0 if kind == "yeast" else 1
    if len(words) != 1 + names + len(BOUNDS[kind]):
        return None
    if names == 1 and not is_name(words[1]):
        return None
    numbers = numbers_in(words[1 + names:], kind)
    if numbers is None:
        return None
    return Row(kind, words[1] if names == 1 else "", numbers)


def hop_clashes(row, earlier):
    """Tell whether a hop clashes with the hops before it."""
    minutes = row.numbers[MINUTES]
    if len(earlier) > 0 and minutes > earlier[-1].numbers[MINUTES]:
        return True
    for other in earlier:
        if other.name == row.name and other.numbers[MINUTES] == minutes:
            return True
    return False


def clashes(row, earlier):
    """Tell whether a row clashes with those of its kind before it."""
    if row.kind == "hop":
        return hop_clashes(row, earlier)
    return row.name in [other.name for other in earlier]


def why_wrong(row, before, earlier):
    """Give back why a row (None: not formed) is wrong behind one of the kind before, or 0 if it is right."""
    if row is None:
        return UNFORMED
    if before not in MAY_FOLLOW[row.kind]:
        return CANNOT_STAND
    if clashes(row, earlier[row.kind]):
        return CLASHES
    if len(earlier[row.kind]) >= MOST_OF_A_KIND:
        return TOO_MUCH
    return 0


def why_wrong_at_end(rest, before):
    """Give back why a text may not end so, with the rest behind its last line feed, or 0 if it may."""
    if rest != "":
        return UNFORMED
    if before != "yeast":
        return CANNOT_STAND
    return 0


def read_lines(reading, text):
    """Put a text's rows into the reading, up to its fault; give back the fault's line and why, [] if it has none."""
    lines = spell(text).split("\n")
    rest = lines.pop()
    before = ""
    for number, signs in enumerate(lines):
        row = row_of(signs)
        why = why_wrong(row, before, reading.rows)
        if why != 0:
            return [number, why]
        reading.rows[row.kind].append(row)
        before = row.kind
    why = why_wrong_at_end(rest, before)
    return [] if why == 0 else [len(lines), why]


def read_text(text):
    """Give back the reading of a text."""
    reading = Reading()
    if len(text) > MOST_BYTES:
        reading.refusal = [-2]
        return reading
    fault = read_lines(reading, text)
    if len(fault) > 0:
        reading.refusal = [-6] + fault
    return reading


def told_rows(reading):
    """Give back a recipe's malts, then its hops, then its adds."""
    rows = []
    for kind in KIND_NUMBERS:
        rows.extend(reading.rows[kind])
    return rows


def numbers_of_row(row):
    """Give back a row as numbers: its kind, its numbers, how long its name is and the name's bytes."""
    noughts = [0] * (NUMBERS_TOLD - len(row.numbers))
    return [KIND_NUMBERS[row.kind]] + row.numbers + noughts + [len(row.name)] + [ord(sign) for sign in row.name]


def is_batch(ml, malt, hops, reading):
    """Tell whether these millilitres and grams are a batch of the recipe."""
    if not 1 <= ml <= MOST_ML or not 0 <= malt <= MOST_GRAMS or not 0 <= hops <= MOST_GRAMS:
        return False
    return hops == 0 or len(reading.rows["hop"]) > 0


def read_batch(ml, malt, hops, text):
    """Give back the reading of a text, with the refusal -1 if it is a recipe but this is no batch of it."""
    reading = read_text(text)
    if len(reading.refusal) == 0 and not is_batch(ml, malt, hops, reading):
        reading.refusal = [-1]
    return reading


def scaled(rows, weight):
    """Give back the whole grams of each row, by its parts, that are together just the weight."""
    together = sum([row.numbers[PARTS] for row in rows])
    # Whole numbers tell the fractions exactly: each stands above the same number, the parts together.
    above = [weight * row.numbers[PARTS] for row in rows]
    grams = [share // together for share in above]
    left_over = weight - sum(grams)
    # Like fractions stay in their order when sorted, so the first of them comes first.
    by_fraction = sorted(range(len(above)), key=lambda place: -(above[place] % together))
    for place in by_fraction[:left_over]:
        grams[place] = grams[place] + 1
    return grams


def grams_of_add(row, ml):
    """Give back the grams of an add, half a gram and more rounded up."""
    return (row.numbers[GRAMS] * ml + ML_IN_HECTOLITRE // 2) // ML_IN_HECTOLITRE


def lowest_terms(above, below):
    """Give back what stands above and what stands below a fraction's line, in lowest terms; 0 is 0 / 1."""
    common = below
    rest = above
    while rest > 0:
        left = common % rest
        common = rest
        rest = left
    return [above // common, below // common]


def extract_of(rows, weight):
    """Give back the milligrams of extract that malts of this weight give."""
    return sum([grams * row.numbers[EXTRACT] for grams, row in zip(scaled(rows, weight), rows)])


def least_to_try(rows, needed):
    """Give back a weight of malts below which their extract is surely less than what is needed."""
    extracts = [row.numbers[EXTRACT] for row in rows]
    middle = sorted(extracts)[len(extracts) // 2]
    # Each malt is at most a gram off its share, and what some have beyond theirs others lack. So the extract is off
    # what the shares would give by at most the extracts' distances from one number, whichever; the middle one is best.
    off = sum([abs(extract - middle) for extract in extracts])
    together = sum([row.numbers[PARTS] for row in rows])
    of_parts = sum([row.numbers[PARTS] * row.numbers[EXTRACT] for row in rows])
    return max(0, -((off - needed) * together // of_parts))


def use_of(minutes):
    """Give back the use of a hop boiled so many minutes, in thousandths."""
    if minutes < SLOW_MINUTES:
        return 5 * minutes
    return min(5 * SLOW_MINUTES + minutes - SLOW_MINUTES, MOST_USE)


def bitter_of(rows, weight):
    """Give back what hops of this weight bring to the whole batch's bitterness."""
    strong = [row.numbers[ACID] * use_of(row.numbers[MINUTES]) for row in rows]
    return sum([grams * each for grams, each in zip(scaled(rows, weight), strong)])


def by_shares(rows):
    """Give back names, numbers and shares of malts or hops, the same in whatever order and by whatever parts told."""
    together = sum([row.numbers[PARTS] for row in rows])
    return sorted([[row.name] + row.numbers[PARTS + 1:] + lowest_terms(row.numbers[PARTS], together) for row in rows])


def likeness(reading):
    """Give back what is the same of two recipes just if they are like."""
    rows = reading.rows
    adds = sorted([[row.name] + row.numbers for row in rows["add"]])
    return [rows["yeast"][0].numbers, by_shares(rows["malt"]), by_shares(rows["hop"]), adds]


def refusal_of_two(first, second):
    """Give back the refusal that two readings earn together, [] if both are recipes."""
    if [-2] in (first.refusal, second.refusal):
        return [-2]
    if len(first.refusal) > 0 or len(second.refusal) == 0:
        return first.refusal
    return second.refusal[:-1] + [second.refusal[-1] + OF_SECOND]


def judge(text):
    """Answer 0 if the text is a recipe, else its refusal."""
    reading = read_text(text)
    if len(reading.refusal) > 0:
        return reading.refusal
    return [0]


def sizes(text):
    """Answer 0 and how many malts, hops and adds the recipe has, else its refusal."""
    reading = read_text(text)
    if len(reading.refusal) > 0:
        return reading.refusal
    return [0] + [len(reading.rows[kind]) for kind in KIND_NUMBERS]


def line(i, text):
    """Answer 0 and the i-th of the recipe's malts, hops and adds as numbers, else its refusal, or -4: there is none."""
    reading = read_text(text)
    if len(reading.refusal) > 0:
        return reading.refusal
    rows = told_rows(reading)
    if i >= len(rows):
        return [-4]
    return [0] + numbers_of_row(rows[i])


def scale(ml, malt, hops, text):
    """Answer 0 and the grams of malts, hops and adds of a batch, else the text's refusal, or -1: it is no batch."""
    reading = read_batch(ml, malt, hops, text)
    if len(reading.refusal) > 0:
        return reading.refusal
    adds = [grams_of_add(row, ml) for row in reading.rows["add"]]
    return [0] + scaled(reading.rows["malt"], malt) + scaled(reading.rows["hop"], hops) + adds


def tells(ml, malt, hops, text):
    """Answer 0 and a batch's gravity, bitterness and strength, else the text's refusal, or -1: it is no batch."""
    reading = read_batch(ml, malt, hops, text)
    if len(reading.refusal) > 0:
        return reading.refusal
    extract = extract_of(reading.rows["malt"], malt)
    turned = reading.rows["yeast"][0].numbers[TURNED]
    strength = lowest_terms(extract * turned * STRENGTH_ABOVE, ml * STRENGTH_BELOW)
    return [0] + lowest_terms(extract, ml) + lowest_terms(bitter_of(reading.rows["hop"], hops), ml) + strength


def like(text, other):
    """Answer 1 if two recipes are like and 0 if not, else the refusal of the two texts."""
    first = read_text(text)
    second = read_text(other)
    refusal = refusal_of_two(first, second)
    if len(refusal) > 0:
        return refusal
    return [1 if likeness(first) == likeness(second) else 0]


def malt(ml, n, d, text):
    """Answer 0 and the least grams of malt for a gravity of n / d, else the text's refusal, -1, or -3: none will do."""
    reading = read_batch(ml, 0, 0, text)
    if len(reading.refusal) > 0:
        return reading.refusal
    if d == 0:
        return [-1]
    rows = reading.rows["malt"]
    needed = (n * ml + d - 1) // d
    # More malt may give less extract, as a gram may go to another malt than before: each weight is tried by itself.
    for weight in range(least_to_try(rows, needed), MOST_GRAMS + 1):
        if extract_of(rows, weight) >= needed:
            return [0, weight]
    return [-3]
