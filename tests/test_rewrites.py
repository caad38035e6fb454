import copy
import unittest

from messageways.alike import joined_kinds
from messageways.errors import BadMessage
from messageways.languages import Language, parse_language
from messageways.notation import parse_message
from messageways.rewrites import counter_example, filled, is_safe
from messageways.shown import shown
from tests.small import ENGLISH, RUSSIAN, LANGUAGES, random_with, small_arguments, small_message
from tests.slow_diagrams import slow_diagram

NONE = Language([])
EN = parse_language(ENGLISH)
RU = parse_language(RUSSIAN)


def side(notation):
    """A side in whose notation {A} is the hole a, {B} the hole b, and so on."""
    for letter in "ABC":
        notation = notation.replace("{" + letter + "}", "{hole" + letter.lower() + "}")
    return with_holes(parse_message(notation))


def with_holes(message):
    nodes = []
    for node in message:
        if node[0] == "show" and node[1].startswith("hole"):
            nodes.append(("hole", node[1][4:]))
        elif node[0] in ("select", "plural"):
            nodes.append(node[:-2] + ([(key, with_holes(inner)) for key, inner in node[-2]], with_holes(node[-1])))
        else:
            nodes.append(node)
    return nodes


SAFE = [
    ("", ""),
    ("{A}", "{A}"),
    ("a{A}b{B}{A}", "a{A}b{B}{A}"),
    # Cases that say the same as the other message.
    ("{w, select, x {{A}} other {{A}}}", "{A}"),
    ("{n, plural, one {{A}} =5 {{A}} other {{A}}}", "{A}"),
    ("{w, select, x {{A}} y {{B}} other {{B}}}", "{w, select, x {{A}} other {{B}}}"),
    # Choices by the same name within one another.
    ("{w, select, x {{w, select, x {{A}} other {{B}}}} other {{C}}}", "{w, select, x {{A}} other {{C}}}"),
    ("{w, select, x {{A}} other {{w, select, x {{B}} y {{C}} other {}}}}", "{w, select, x {{A}} y {{C}} other {}}"),
    ("{n, plural, one {{n, plural, =1 {{A}} other {{B}}}} other {{C}}}", "{n, plural, one {{A}} other {{C}}}"),
    # Choices by other names, in another order.
    ("{v, select, x {{w, select, x {{A}} other {{B}}}} other {{w, select, x {{C}} other {}}}}",
     "{w, select, x {{v, select, x {{A}} other {{C}}}} other {{v, select, x {{B}} other {}}}}"),
    # Texts that stand behind all cases.
    ("{w, select, x {{A}!} other {{B}!}}", "{w, select, x {{A}} other {{B}}}!"),
    ("{w, select, x {{C}{A}} other {{C}{B}}}", "{C}{w, select, x {{A}} other {{B}}}"),
    # A hole in a plural that always is that of the same number.
    ("{n, plural, offset:1 one {{A}} other {{A}}}", "{n, plural, offset:1 other {{A}}}"),
    ("{n, plural, offset:1 =2 {{A}} other {{B}}}", "{n, plural, offset:1 one {{A}} other {{B}}}"),
    ("{n, plural, =3 {{p, plural, =3 {{A}} other {}}} other {}}",
     "{p, plural, =3 {{n, plural, =3 {{A}} other {}}} other {}}"),
    # What stands in a plural by a name and outside of it, too, has no number.
    ("{n, plural, other {{A}}}{A}", "{A}{n, plural, offset:2 one {{A}} other {{A}}}"),
    ("{n, plural, offset:1 one {{A}} other {}}{B}{A}", "{n, plural, =2 {{A}} other {}}{B}{A}"),
    ("{n, plural, other {{A}}}{w, select, x {{A}} other {}}", "{w, select, x {{A}{A}} other {{A}}}"),
    # Texts of holes and numbers beside one another.
    ("{n, plural, =1 {1{A}} other {#{A}}}", "{n, plural, other {#{A}}}"),
]

UNSAFE = [
    ("{A}", ""),
    ("{A}", "{B}"),
    ("{A}", "{A}{A}"),
    ("{A}{B}", "{B}{A}"),
    ("{A}a", "a{A}"),
    ("{A}{n}", "{n}{A}"),
    ("{w, select, x {{A}} other {{B}}}", "{w, select, x {{B}} other {{A}}}"),
    ("{w, select, x {{A}} y {{B}} other {{C}}}", "{w, select, x {{A}} other {{C}}}"),
    ("{n, plural, one {{A}} other {{B}}}", "{n, plural, =2 {{A}} other {{B}}}"),
    ("{n, plural, =1 {{A}} other {{B}}}", "{n, plural, other {{A}{B}}}"),
    # The number in a hole is another one.
    ("{n, plural, other {{A}}}", "{n, plural, offset:1 other {{A}}}"),
    ("{n, plural, other {{A}}}", "{p, plural, other {{A}}}"),
    ("{n, plural, offset:1 =2 {{A}} other {}}", "{n, plural, =2 {{A}} other {}}"),
    ("{n, plural, other {{A}{p, plural, other {{A}}}}}", "{p, plural, other {{A}{n, plural, other {{A}}}}}"),
    ("{n, plural, =1 {{p, plural, =11 {{A}} other {}}{A}} other {}}",
     "{n, plural, =1 {{A}{p, plural, =11 {{A}} other {}}} other {}}"),
    ("{n, plural, other {{w, select, x {{A}} other {}}}}",
     "{n, plural, offset:1 other {{w, select, x {{A}} other {}}}}"),
    # Outside of all plurals there is none, but order counts.
    ("{n, plural, other {{A}}}{A}{B}", "{A}{n, plural, offset:2 one {{A}} other {{B}}}{A}"),
]


class SafeTest(unittest.TestCase):
    def check(self, left, right, language, safe):
        before = copy.deepcopy((left, right, language.rules))
        self.assertIs(is_safe(left, right, language), safe)
        found = counter_example(left, right, language)
        self.assertEqual((left, right, language.rules), before)
        if safe:
            self.assertIsNone(found)
            return
        self.assertIsInstance(found, tuple)
        fillings, arguments = found
        self.assertEqual(list(fillings), sorted(letters_in(left) | letters_in(right)))
        self.assertEqual(list(arguments), list(joined_kinds(left, right)))
        outside = outside_in(left) | outside_in(right)
        for letter, message in fillings.items():
            self.assertFalse(letter in outside and ("number",) in message)
        sides = [filled(one, fillings) for one in (left, right)]
        joined_kinds(sides[0], sides[1])
        self.assertNotEqual(shown(sides[0], language, arguments), shown(sides[1], language, arguments))

    def test_safe(self):
        for left, right in SAFE:
            with self.subTest(left=left, right=right):
                self.check(side(left), side(right), EN, True)
                self.check(side(right), side(left), EN, True)

    def test_unsafe(self):
        for left, right in UNSAFE:
            with self.subTest(left=left, right=right):
                self.check(side(left), side(right), EN, False)
                self.check(side(right), side(left), EN, False)

    def test_the_language_counts(self):
        left, right = side("{n, plural, one {{A}} other {{B}}}"), side("{n, plural, =1 {{A}} other {{B}}}")
        self.check(left, right, EN, True)
        self.check(left, right, RU, False)
        self.check(left, side("{n, plural, other {{B}}}"), NONE, True)
        self.check(left, side("{n, plural, other {{B}}}"), EN, False)

    def test_counter_examples(self):
        self.assertEqual(counter_example(side("{A}{w}"), side("{w}{A}"), EN), ({"a": [("text", "a")]}, {"w": "b"}))
        self.assertEqual(counter_example(side("{n, plural, other {{A}}}"), side("{n, plural, offset:1 other {{A}}}"),
                                         EN), (
            {"a": [("text", "a"), ("number",), ("text", "a")]}, {"n": 0}))
        fillings, arguments = counter_example(side("{n, plural, =999 {{A}} other {}}{B}"), side("{B}"), EN)
        self.assertEqual((sorted(fillings), arguments), (["a", "b"], {"n": 999}))

    def test_bad_sides(self):
        for left, right, name in (
                ("{A}{n, plural, other {{w, select, other {}}}}", "{w, plural, other {}}{n, select, other {}}", "w"),
                ("{A}{n, plural, other {{n, select, other {}}}}", "{A}", "n"),
                ("{A}{w}", "{A}{w, plural, other {{A}}}{w, select, other {}}", "w")):
            for call in (is_safe, counter_example):
                with self.assertRaises(BadMessage) as caught:
                    call(side(left), side(right), EN)
                self.assertEqual(caught.exception.name, name)

    def test_small_sides(self):
        chance = random_with(80)
        safe = 0
        for turn in range(400):
            language = chance.choice(LANGUAGES)
            left = small_message(chance, 1 + (turn % 8 == 0), holes=True)
            right = small_message(chance, 1, holes=True)
            if turn % 2:
                # More of those that are safe, or nearly so.
                right = [("select", "u", [("x", left)], left + right[:1] * (turn % 4 == 1))]
            expected = slow_diagram(no_number(left, left + right), language) == slow_diagram(
                no_number(right, left + right), language)
            self.check(left, right, language, expected)
            safe += expected
            if expected:
                self.fill_at_random(left, right, language, chance)
        self.assertGreater(safe, 80)

    def fill_at_random(self, left, right, language, chance):
        outside = outside_in(left + right)
        for _ in range(5):
            fillings = {letter: small_message(chance, 2, inside=letter not in outside) for letter in "ab"}
            arguments = small_arguments(chance)
            texts = [shown(filled(one, fillings), language, arguments) for one in (left, right)]
            self.assertEqual(texts[0], texts[1])


def letters_in(message):
    found = set()
    for node in message:
        if node[0] == "hole":
            found.add(node[1])
        elif node[0] in ("select", "plural"):
            found |= letters_in([inner for _, message in list(node[-2]) + [("other", node[-1])] for inner in message])
    return found


def outside_in(message):
    found = set()
    for node in message:
        if node[0] == "hole":
            found.add(node[1])
        elif node[0] == "select":
            found |= outside_in([inner for _, message in list(node[-2]) + [("other", node[-1])] for inner in message])
    return found


def no_number(message, sides):
    """A message in which a name stands for each hole that has no number."""
    outside = outside_in(sides)
    nodes = []
    for node in message:
        if node[0] == "hole" and node[1] in outside:
            nodes.append(("show", "hole" + node[1]))
        elif node[0] in ("select", "plural"):
            cases = [(key, no_number(inner, sides)) for key, inner in node[-2]]
            nodes.append(node[:-2] + (cases, no_number(node[-1], sides)))
        else:
            nodes.append(node)
    return nodes


class FilledTest(unittest.TestCase):
    def test_filled(self):
        message = side("x{A}{n, plural, =1 {{B}#} other {{w, select, y {{A}} other {{B}{B}}}}}")
        fillings = {"a": parse_message("y{w}"), "b": [("number",)], "c": [("text", "c")]}
        before = copy.deepcopy((message, fillings))
        self.assertEqual(filled(message, fillings), [
            ("text", "x"), ("text", "y"), ("show", "w"),
            ("plural", "n", 0, [(1, [("number",), ("number",)])], [
                ("select", "w", [("y", [("text", "y"), ("show", "w")])], [("number",), ("number",)])])])
        self.assertEqual((message, fillings), before)

    def test_empty_fillings_and_messages(self):
        self.assertEqual(filled([], {}), [])
        self.assertEqual(filled(side("{A}{w, select, other {{A}}}"), {"a": []}), [("select", "w", [], [])])
        self.assertEqual(filled(side("a{w, select, other {}}"), {}), side("a{w, select, other {}}"))

    def test_new_lists(self):
        message = side("{w, select, x {{A}} other {}}")
        found = filled(message, {"a": []})
        found.append(("text", "b"))
        found[0][2].append(("y", []))
        self.assertEqual(message, side("{w, select, x {{A}} other {}}"))

    def test_deep_messages(self):
        message = [("hole", "a")]
        for _ in range(5000):
            message = [("select", "w", [("x", message)], [("hole", "a")])]
        self.assertEqual(shown(filled(message, {"a": [("text", "b")]}), EN, {"w": "x"}), "b")
        self.assertTrue(is_safe(message, [("hole", "a")], EN))


if __name__ == "__main__":
    unittest.main()
