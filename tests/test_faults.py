"""Texts with a fault: its line and why, with every reason at its edges."""
import unittest

from brewrecipes.recipes import judge, like
from tests.helper import CALLS, PLAIN, adds, coded, hops, malts, recipe_of, text_of


class FaultCase(unittest.TestCase):
    def check(self, text, line, why):
        for name, call in CALLS.items():
            self.assertEqual(call(text), [-6, line, why], name)
        self.assertEqual(like(text_of(PLAIN), text), [-6, line, why + 16])

    def check_lines(self, lines, line, why):
        with self.subTest(lines=lines):
            self.check(text_of(lines), line, why)

    def check_right(self, lines):
        with self.subTest(lines=lines):
            self.assertEqual(judge(text_of(lines)), [0])


class NotFormed(FaultCase):
    BASE = ["recipe pale1", "malt pils 90 800", "hop saaz 2 350 60", "add salt 20", "yeast 780"]
    PLACES = [
        (1, "malt x %s 800", 1, 10000),
        (1, "malt x 90 %s", 1, 850),
        (2, "hop x %s 350 60", 1, 10000),
        (2, "hop x 2 %s 60", 1, 2500),
        (2, "hop x 2 350 %s", 0, 120),
        (3, "add x %s", 1, 100000),
        (4, "yeast %s", 1, 950),
    ]

    def with_line(self, place, line):
        return self.BASE[:place] + [line] + self.BASE[place + 1:]

    def check_formed(self, place, line):
        self.check_right(self.with_line(place, line))

    def check_not_formed(self, place, line):
        self.check_lines(self.with_line(place, line), place, 1)

    def test_bounds(self):
        for place, form, least, most in self.PLACES:
            for number in (least, least + 1, most - 1, most):
                self.check_formed(place, form % number)
            for number in (least - 1, most + 1, most * 10, 2 ** 32 + least, 2 ** 64 + most):
                self.check_not_formed(place, form % number)

    def test_numbers_that_are_not_formed(self):
        wrong = ["00", "01", "007", "+1", "-1", "-0", "1.0", "1_0", "0x1", "1e1", "a", "1a", "a1", "\t1", "1\t", "1\r",
                 "\xb2", "\xb9", "?", "/", ":", "1,0", ""]
        for place, form, least, most in self.PLACES:
            for word in wrong:
                self.check_not_formed(place, form % word)

    def test_a_nought_ahead_of_a_number_within_bounds(self):
        for place, form, least, most in self.PLACES:
            self.check_not_formed(place, form % "01")
            self.check_not_formed(place, form % ("0" + str(most)))
            self.check_not_formed(place, form % ("0" * 12 + "1"))

    def test_numbers_of_very_many_digits(self):
        for place, form, least, most in self.PLACES:
            for word in ("1" * 4301, "9" * 16000, "0" * 5000 + "1"):
                self.check(text_of(self.with_line(place, form % word)), place, 1)

    def test_names(self):
        for place, form in ((0, "recipe %s"), (1, "malt %s 90 800"), (2, "hop %s 2 350 60"), (3, "add %s 20")):
            for name in ("a", "z", "0", "9", "abcdefghijkl", "123456789012", "0a", "mnopqrstuvwx", "y12345678"):
                self.check_formed(place, form % name)
            for name in ("", "abcdefghijklm", "1234567890123", "a" * 24, "A", "Z", "aB", "a-b", "a_b", "a.b", "a\tb",
                         "a?", "?", "a`", "{a", "/1", "1:", "\xe4", "\x80", "\xff", "a\x00", "\x00", "a\r", "\x0b"):
                self.check_not_formed(place, form % name)

    def test_every_byte_in_a_name(self):
        for byte in range(256):
            text = coded("recipe a") + [byte] + text_of(["a"] + PLAIN[1:])
            if 48 <= byte <= 57 or 97 <= byte <= 122:
                self.assertEqual(judge(text), [0], byte)
            elif byte == 10:
                self.check(text, 1, 1)
            else:
                self.check(text, 0, 1)

    def test_every_byte_in_a_number(self):
        for byte in range(256):
            text = text_of(PLAIN[:-1]) + coded("yeast 7") + [byte] + text_of(["8"])
            if 48 <= byte <= 57:
                self.assertEqual(judge(text), [0], byte)
            elif byte == 10:
                # The yeast stands, and what's behind it isn't formed.
                self.check(text, 9, 1)
            else:
                self.check(text, 8, 1)

    def test_every_byte_in_a_first_word_and_between(self):
        for byte in range(256):
            if byte != ord("m"):
                self.check(text_of(PLAIN[:1]) + [byte] + coded("alt a 1 1\nyeast 1\n"), 1, 1)
            if byte != 32:
                self.check(text_of(PLAIN[:1]) + coded("malt a") + [byte] + coded("1 1\nyeast 1\n"), 1, 1)

    def test_blanks(self):
        for place, line in enumerate(self.BASE):
            self.check_not_formed(place, " " + line)
            self.check_not_formed(place, line + " ")
            self.check_not_formed(place, line.replace(" ", ""))
            self.check_not_formed(place, line.replace(" ", "\t"))
            for k, sign in enumerate(line):
                if sign == " ":
                    self.check_not_formed(place, line[:k] + " " + line[k:])
                    self.check_not_formed(place, line[:k] + line[k + 1:])
        self.check_not_formed(1, " ")
        self.check_not_formed(1, "    ")

    def test_too_few_and_too_many_things(self):
        for place, line in enumerate(self.BASE):
            words = line.split(" ")
            for count in range(len(words)):
                self.check_not_formed(place, " ".join(words[:count]))
            for more in ("1", "0", "a", words[-1]):
                self.check_not_formed(place, line + " " + more)
            for k in range(1, len(words)):
                self.check_not_formed(place, " ".join(words[:k] + words[k + 1:]))
        self.check_not_formed(4, "yeast ale 780")
        self.check_not_formed(1, "malt 90 800")

    def test_unknown_first_words(self):
        for word in ("water", "malts", "mal", "Malt", "MALT", "amalt", "recipes", "hops", "added", "0", "?"):
            self.check_not_formed(1, word + " pils 90 800")
        self.check_not_formed(4, "yeasts 780")
        self.check_not_formed(0, "name pale1")

    def test_empty_lines(self):
        self.check(coded("\n"), 0, 1)
        self.check(coded("\n\n\n"), 0, 1)
        for place in range(len(PLAIN) + 1):
            self.check_lines(PLAIN[:place] + [""] + PLAIN[place:], place, 1)

    def test_last_line_without_its_line_feed(self):
        for count in range(1, len(PLAIN) + 1):
            self.check(text_of(PLAIN[:count])[:-1], count - 1, 1)
        self.check(text_of(PLAIN) + coded("y"), 9, 1)
        self.check(text_of(PLAIN) + coded(" "), 9, 1)
        self.check(text_of(PLAIN) + coded("yeast 780"), 9, 1)

    def test_other_ends_of_a_line(self):
        self.check(coded("\r\n".join(PLAIN) + "\r\n"), 0, 1)
        self.check(coded("\r".join(PLAIN) + "\r"), 0, 1)
        for sign in "\x0b\x0c\x1c\x1d\x1e\x85":
            self.check(coded(PLAIN[0] + sign + PLAIN[1] + "\n"), 0, 1)


class CannotStand(FaultCase):
    LINES = {"r": "recipe r", "m": "malt m 1 1", "h": "hop h 1 1 0", "a": "add a 1", "y": "yeast 1"}

    def check_order(self, kinds, line):
        self.check_lines([self.LINES[kind] for kind in kinds], line, 3)

    def test_empty_text(self):
        self.check([], 0, 3)

    def test_texts_that_end_before_their_yeast(self):
        for kinds in ("r", "rm", "rmh", "rma", "rmha"):
            self.check_order(kinds, len(kinds))
        for count in range(len(PLAIN)):
            self.check_lines(PLAIN[:count], count, 3)

    def test_not_a_recipe_first(self):
        for kinds in ("m", "h", "a", "y", "mr", "ymr", "mhay", "y"):
            self.check_order(kinds, 0)

    def test_no_malt(self):
        for kinds in ("rh", "ra", "ry", "rhay", "rhmy", "ray"):
            self.check_order(kinds, 1)

    def test_wrong_orders(self):
        for kinds, line in (("rmhm", 3), ("rmam", 3), ("rmah", 3), ("rmham", 4), ("rmhah", 4), ("rmahy", 3)):
            self.check_order(kinds, line)

    def test_a_second_recipe(self):
        for kinds in ("rr", "rmr", "rmhr", "rmar", "rmhar", "rmhayr"):
            self.check_order(kinds, len(kinds) - 1)
            self.check_order(kinds + "mhay", len(kinds) - 1)
        self.check_lines(["recipe a", "recipe b", "malt m 1 1", "yeast 1"], 1, 3)
        self.check_lines(recipe_of(1, 0, 0) * 2, 3, 3)

    def test_anything_behind_the_yeast(self):
        for kind in "rmhay":
            self.check_order("rmy" + kind, 3)
            self.check_order("rmhay" + kind, 5)
        for line in ("malt other 1 1", "hop other 1 1 0", "add other 1", "yeast 2", "recipe other"):
            self.check_lines(PLAIN + [line], 9, 3)


class Clashes(FaultCase):
    def test_malts_of_like_name(self):
        self.check_lines(["recipe r", "malt a 1 1", "malt a 1 1", "yeast 1"], 2, 4)
        self.check_lines(["recipe r", "malt a 1 1", "malt b 1 1", "malt a 2 2", "yeast 1"], 3, 4)
        self.check_lines(["recipe r"] + malts(15) + ["malt n0 7 7", "yeast 1"], 16, 4)
        self.check_right(["recipe r", "malt a 1 1", "malt aa 1 1", "malt a0 1 1", "malt r 1 1", "yeast 1"])

    def test_adds_of_like_name(self):
        self.check_lines(["recipe r", "malt a 1 1", "add a 1", "add a 1", "yeast 1"], 3, 4)
        self.check_lines(["recipe r", "malt a 1 1", "add a 1", "add b 1", "add a 2", "yeast 1"], 4, 4)
        self.check_lines(["recipe r", "malt a 1 1"] + adds(15) + ["add n14 7", "yeast 1"], 17, 4)

    def test_hops_of_like_name_and_minutes(self):
        head = ["recipe r", "malt a 1 1"]
        self.check_lines(head + ["hop a 1 1 60", "hop a 1 1 60", "yeast 1"], 3, 4)
        self.check_lines(head + ["hop a 1 1 60", "hop a 2 2 60", "yeast 1"], 3, 4)
        self.check_lines(head + ["hop a 1 1 60", "hop b 1 1 60", "hop a 1 1 60", "yeast 1"], 4, 4)
        self.check_lines(head + ["hop a 1 1 0", "hop a 1 1 0", "yeast 1"], 3, 4)
        self.check_lines(head + ["hop a 1 1 9", "hop a 1 1 8", "hop b 1 1 8", "hop a 1 1 8", "yeast 1"], 5, 4)
        self.check_right(head + ["hop a 1 1 60", "hop a 1 1 59", "yeast 1"])
        self.check_right(head + ["hop a 1 1 60", "hop b 1 1 60", "yeast 1"])

    def test_a_hop_with_more_minutes_than_the_one_before(self):
        head = ["recipe r", "malt a 1 1"]
        self.check_lines(head + ["hop a 1 1 59", "hop b 1 1 60", "yeast 1"], 3, 4)
        self.check_lines(head + ["hop a 1 1 0", "hop b 1 1 1", "yeast 1"], 3, 4)
        self.check_lines(head + ["hop a 1 1 9", "hop b 1 1 10", "yeast 1"], 3, 4)
        self.check_lines(head + ["hop a 1 1 99", "hop b 1 1 100", "yeast 1"], 3, 4)
        # More than the one before it, though not more than the first.
        self.check_lines(head + ["hop a 1 1 60", "hop b 1 1 10", "hop c 1 1 20", "yeast 1"], 4, 4)
        self.check_right(head + ["hop a 1 1 100", "hop b 1 1 20", "hop c 1 1 3", "yeast 1"])


class TooMuch(FaultCase):
    def test_the_17th(self):
        self.check_lines(recipe_of(17, 0, 0), 17, 2)
        self.check_lines(recipe_of(1, 17, 0), 18, 2)
        self.check_lines(recipe_of(1, 0, 17), 18, 2)
        self.check_lines(recipe_of(17, 17, 17), 17, 2)
        self.check_lines(recipe_of(16, 17, 17), 33, 2)
        self.check_lines(recipe_of(16, 16, 17), 49, 2)
        self.check_right(recipe_of(16, 16, 16))

    def test_hops_of_like_name_count_too(self):
        lines = ["hop a 1 1 %d" % (40 - k) for k in range(17)]
        self.check_lines(["recipe r", "malt a 1 1"] + lines + ["yeast 1"], 18, 2)
        self.check_right(["recipe r", "malt a 1 1"] + lines[:16] + ["yeast 1"])


class SeveralReasons(FaultCase):
    def test_not_formed_before_all(self):
        # Of like name, the 17th and in a wrong order too, were it formed.
        self.check_lines(["recipe r"] + malts(16) + ["malt n0 0 1"], 17, 1)
        self.check_lines(["recipe r"] + malts(16) + ["hop h 1 1 1", "malt n0 1 851"], 18, 1)
        self.check_lines(["malt a 0 1"], 0, 1)
        self.check_lines(PLAIN + ["yeast 951"], 9, 1)
        self.check_lines(PLAIN + ["water"], 9, 1)
        self.check(text_of(["recipe r", "malt a 1 1"]) + coded("malt a 1 1"), 2, 1)
        self.check(text_of(["recipe r"]) + coded("yeast 1"), 1, 1)
        self.check(text_of(["recipe r"] + malts(16)) + coded("malt n16 1 800"), 17, 1)

    def test_cannot_stand_before_clash_and_too_much(self):
        self.check_lines(["recipe r", "malt a 1 1", "hop h 1 1 1", "malt a 1 1"], 3, 3)
        self.check_lines(["recipe r"] + malts(16) + ["hop h 1 1 1", "malt n16 1 1"], 18, 3)
        self.check_lines(["recipe r"] + malts(16) + ["hop h 1 1 1", "malt n0 1 1"], 18, 3)
        self.check_lines(["recipe r", "malt a 1 1", "hop h 1 1 1", "add a 1", "hop h 1 1 1"], 4, 3)
        self.check_lines(["recipe r", "malt a 1 1", "hop h 1 1 1", "add a 1", "hop g 1 1 2"], 4, 3)
        self.check_lines(recipe_of(1, 16, 1)[:-1] + ["hop n16 1 300 60"], 19, 3)
        self.check_lines(recipe_of(1, 0, 16) + ["add n0 1"], 19, 3)

    def test_clash_before_too_much(self):
        self.check_lines(["recipe r"] + malts(16) + ["malt n0 1 1"], 17, 4)
        self.check_lines(["recipe r", "malt a 1 1"] + hops(16) + ["hop n0 1 300 60"], 18, 4)
        self.check_lines(["recipe r", "malt a 1 1"] + hops(16) + ["hop n16 1 300 61"], 18, 4)
        self.check_lines(["recipe r", "malt a 1 1"] + adds(16) + ["add n15 1"], 18, 4)

    def test_faults_in_several_lines_the_first_one_counts(self):
        self.check_lines(["recipe r"] + malts(17) + ["malt n0 1 1", "malt r 1 1", "water"], 17, 2)
        self.check_lines(["recipe r", "malt a 1 1", "malt a 1 1", "water", "recipe r"], 2, 4)
        self.check_lines(["recipe r", "hop a 1 1 1", "water"], 1, 3)
        self.check_lines(["recipe r", "water", "hop a 1 1 1"], 1, 1)
        self.check(text_of(["recipe r", "hop a 1 1 1"]) + coded("yeast"), 1, 3)
        self.check(text_of(["recipe r", "malt a 1 1", "malt a 1 1"]), 2, 4)
        self.check(text_of(["recipe r", "malt a 1 1"]) + coded("mal"), 2, 1)


if __name__ == "__main__":
    unittest.main()
