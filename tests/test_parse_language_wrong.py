import unittest

from messageways.errors import LineError
from messageways.languages import format_language, parse_language
from tests.small import random_language, random_with

WRONG_RELATIONS = [
    "", " ", "n", "n in", "n in ", "in 1", "n 1", "n is 1", "N in 1", "n In 1", "m in 1", "n=1", "nin 1", "n in1",
    # Spaces.
    " n in 1", "n in 1 ", "n  in 1", "n in  1", "n in 1, 2", "n in 1 ,2", "n in 1 ..2", "n in 1.. 2", "n\tin 1",
    "n mod 10  in 1", "n mod  10 in 1", "n  mod 10 in 1", "n not  in 1", "n  not in 1", "n in 1\r", "n in\u00a01",
    # Numbers.
    "n in 01", "n in 00", "n in 0001", "n in 10000", "n in 12345", "n in -1", "n in +1", "n in 1.0", "n in x",
    "n in 1_0", "n in \u0661", "n in \u00b2", "n in 1..02", "n in 01..2", "n in 0..10000", "n in 1e3",
    # Ranges.
    "n in 2..1", "n in 1..1", "n in 9999..9999", "n in 0..0", "n in 1..", "n in ..1", "n in ..", "n in 1...2",
    "n in 1..2..3", "n in 1.2", "n in 1-2", "n in 1,", "n in ,1", "n in 1,,2", "n in ,", "n in 1;2", "n in 1..2,2..2",
    "n in 1,2,3,4,5,6,7,8,9", "n in 1..2,3..4,5..6,7..8,9..10,11..12,13..14,15..16,17",
    # The modulus.
    "n mod in 1", "n mod 0 in 0", "n mod 1 in 0", "n mod 101 in 1", "n mod 1000 in 1", "n mod 10000 in 1",
    "n mod 010 in 1", "n mod 02 in 1", "n mod x in 1", "n mod -2 in 1", "n mod 2", "n mod 2 1", "n mod 2..3 in 1",
    "mod 10 in 1", "n mod 10 mod 10 in 1", "n mod 10 not 1", "n mod", "n mod ", "n mod 10 in", "n mod 10 not in",
    # The words.
    "not n in 1", "n in not 1", "n not not in 1", "n not mod 10 in 1", "n not 1", "n not in", "n isnt 1",
    "n in 1 in 2", "n in 1 2", "n within 1", "n in 1;", "n in 1 # one", "n not in not 1",
    # Rows and conditions.
    "n in 1 and", "n in 1 and ", "n in 1 or", "n in 1 or ", "and n in 1", "or n in 1", " and n in 1", " or n in 1",
    "n in 1 and and n in 2", "n in 1 or or n in 2", "n in 1 and or n in 2", "n in 1 or and n in 2", "n in 1 and 2",
    "n in 1 or 2", "n in 1 AND n in 2", "n in 1, n in 2", "n in 1  and n in 2", "n in 1 or  n in 2", "n in 1&n in 2",
]

WRONG_HEADS = [
    "", "one", "one:", "one ", ": ", ":", " one: ", "one : ", "one:n ", "one:  ", "One: ", "ONE: ", "other: ",
    "ones: ", "on: ", "three: ", "one, ", "one; ", "one; ", "one:\t", "n: ", "1: ", "one two: ", "one: one: ",
]


class WrongLineTest(unittest.TestCase):
    def check(self, text, line):
        with self.assertRaises(LineError, msg=repr(text)) as caught:
            parse_language(text)
        self.assertEqual(caught.exception.line, line, repr(text))

    def check_everywhere(self, category, line):
        """The line is wrong wherever it stands, and whatever stands behind it."""
        self.check(line, 1)
        self.check(f"zero: n in 0\n{line}", 2)
        self.check(f"{line}\nmany: n in 8", 1)
        self.check(f"zero: n in 0\n{line}\nmany: n mod 0 in 8", 2)
        self.check(f"{line}\nmany: x\n\n", 1)
        self.check(f"zero: n in 0..9\n{line}\n{line}\nmany: n in 8\n", 2)

    def test_wrong_relations(self):
        for relation in WRONG_RELATIONS:
            self.check_everywhere("one", "one: " + relation)

    def test_wrong_relations_beside_right_ones(self):
        for relation in WRONG_RELATIONS:
            for joint in (" and ", " or "):
                self.check("zero: n in 0\none: n in 7" + joint + relation, 2)
                self.check("zero: n in 0\none: " + relation + joint + "n in 7", 2)

    def test_wrong_heads(self):
        for head in WRONG_HEADS:
            self.check_everywhere("one", head + "n in 1")

    def test_the_order_of_the_categories(self):
        lines = [f"{category}: n in 1" for category in ("zero", "one", "two", "few", "many")]
        for first in range(5):
            for second in range(5):
                text = lines[first] + "\n" + lines[second]
                if first < second:
                    self.assertEqual(format_language(parse_language(text)), text)
                else:
                    self.check(text, 2)
        self.check("\n".join([lines[0], lines[2], lines[1], lines[3], lines[3]]), 3)
        self.check("\n".join([lines[0], lines[2], lines[3], lines[3], "x"]), 4)
        self.check("\n".join([lines[0], lines[2], lines[4], lines[0]]), 4)

    def test_empty_lines(self):
        self.check("\n", 1)
        self.check("\n\n", 1)
        self.check("one: n in 1\n", 2)
        self.check("\none: n in 1", 1)
        self.check("one: n in 1\n\nmany: n in 2", 2)
        self.check("one: n in 1\nmany: n in 2\n", 3)

    def test_only_line_feeds_end_lines(self):
        for end in ("\r", "\r\n", "\v", "\f", "\x1c", "\x85", "\u2028"):
            self.check(f"one: n in 1{end}many: n in 2", 1)

    def test_the_first_wrong_line_is_told(self):
        right = "zero: n in 0\none: n in 1"
        self.check(right + "\ntwo: n in 2..1\nfew: n mod 1 in 0\nfew: n in 3", 3)
        self.check(right + "\none: n in 2\nfew: n mod 1 in 0", 3)
        self.check("one: n in 1\nzero: n in 0\ntwo: n in 02", 2)

    def test_any_text_is_read_or_has_a_wrong_line(self):
        chance = random_with(4)
        signs = "n mod10in2..4,\nortwe:fyand"
        for _ in range(3000):
            text = format_language(random_language(chance))
            for _ in range(chance.randint(1, 2)):
                place = chance.randint(0, len(text))
                text = text[:place] + chance.choice(list(signs) + [""]) + text[place + chance.randint(0, 1):]
            try:
                self.assertEqual(format_language(parse_language(text)), text)
            except LineError as error:
                before = "\n".join(text.split("\n")[:error.line - 1])
                self.assertEqual(format_language(parse_language(before)), before)
                # The empty text alone is that of the empty language.
                until = "\n".join(text.split("\n")[:error.line])
                if until:
                    self.check(until, error.line)


if __name__ == "__main__":
    unittest.main()
