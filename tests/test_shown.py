import copy
import unittest

from messageways.errors import MissingArgument, WrongArgument
from messageways.languages import Language, parse_language
from messageways.messages import plain
from messageways.notation import parse_message
from messageways.shown import counted, shown
from tests.building import deep_message
from tests.small import ENGLISH, RUSSIAN, LANGUAGES, random_with, small_arguments, small_message
from tests.slow_diagrams import parts_for

NONE = Language([])
EN = parse_language(ENGLISH)
RU = parse_language(RUSSIAN)


def told(notation, arguments, language=EN):
    return shown(parse_message(notation), language, arguments)


class ShownTest(unittest.TestCase):
    def test_texts_and_shows(self):
        self.assertEqual(told("", {}), "")
        self.assertEqual(told("it''s '{' '#' '}'", {}), "it's { # }")
        self.assertEqual(told("{a} of {b}{a}", {"a": 3, "b": "c"}), "3 of c3")
        self.assertEqual(told("{a}", {"a": 0}), "0")
        self.assertEqual(told("<{a}>", {"a": ""}), "<>")
        self.assertEqual(told("{a}", {"a": "{b} #\n'", "b": 1}), "{b} #\n'")

    def test_numbers_of_any_size(self):
        for number in (9, 10, 10 ** 59, 10 ** 60 - 1, 10 ** 60, 10 ** 60 + 7, 10 ** 120, 123456789 ** 40):
            self.assertEqual(told("{a}", {"a": number}), str(number))
            self.assertEqual(told("{a, plural, offset:7 other {#}}", {"a": number}), str(number - 7))
        self.assertEqual(told("{a}", {"a": 10 ** 9000 + 5}), "1" + "0" * 8999 + "5")

    def test_select(self):
        notation = "{w, select, x {1} other {2}}"
        self.assertEqual(told(notation, {"w": "x"}), "1")
        self.assertEqual(told(notation, {"w": "y"}), "2")
        self.assertEqual(told(notation, {"w": "other"}), "2")
        self.assertEqual(told(notation, {"w": ""}), "2")
        self.assertEqual(told("{w, select, other {2}}", {"w": "x"}), "2")
        self.assertEqual(told("{w, select, x {} other {2}}", {"w": "x"}), "")

    def test_plural(self):
        notation = "{n, plural, one {# a} few {# b} many {# c} other {# d}}"
        for number, text in ((0, "0 c"), (1, "1 a"), (2, "2 b"), (5, "5 c"), (11, "11 c"), (12, "12 c"),
                             (21, "21 a"), (111, "111 c"), (10 ** 30 + 22, str(10 ** 30 + 22) + " b")):
            self.assertEqual(told(notation, {"n": number}, RU), text)
        self.assertEqual(told(notation, {"n": 1}, NONE), "1 d")
        self.assertEqual(told("{n, plural, two {a} other {b}}", {"n": 2}), "b")
        self.assertEqual(told("{n, plural, other {b}}", {"n": 1}), "b")

    def test_exact_keys_go_ahead_of_categories(self):
        for notation in ("{n, plural, =1 {a} one {b} other {c}}", "{n, plural, one {b} =1 {a} other {c}}"):
            self.assertEqual(told(notation, {"n": 1}), "a")
            self.assertEqual(told(notation, {"n": 2}), "c")
        self.assertEqual(told("{n, plural, one {b} =21 {} other {c}}", {"n": 21}, RU), "")
        self.assertEqual(told("{n, plural, one {b} =21 {} other {c}}", {"n": 31}, RU), "b")

    def test_offsets_count_for_categories_alone(self):
        notation = "{n, plural, offset:1 =1 {a #} one {b #} other {c #}}"
        self.assertEqual(told(notation, {"n": 0}), "c -1")
        self.assertEqual(told(notation, {"n": 1}), "a 0")
        self.assertEqual(told(notation, {"n": 2}), "b 1")
        self.assertEqual(told(notation, {"n": 3}), "c 2")

    def test_numbers_below_0(self):
        for rule in ("one: n not in 5", "one: n mod 3 in 0..2", "one: n mod 9 not in 3"):
            language = parse_language(rule)
            for number in range(9):
                text = told("{n, plural, offset:9 one {a #} other {b #}}", {"n": number}, language)
                self.assertEqual(text, f"b -{9 - number}")
            self.assertEqual(told("{n, plural, offset:9 one {a #} other {b #}}", {"n": 9}, language), "a 0")
        self.assertEqual(told("{n, plural, offset:9 =3 {c #} other {b}}", {"n": 3}), "c -6")

    def test_the_number_is_that_of_the_innermost_plural(self):
        notation = "{n, plural, offset:1 other {# {w, select, x {#} other {{p, plural, other {#}}}} #}}"
        self.assertEqual(told(notation, {"n": 5, "w": "x"}), "4 4 4")
        self.assertEqual(told(notation, {"n": 5, "w": "y", "p": 7}), "4 7 4")
        again = "{n, plural, offset:1 other {# {n, plural, offset:3 other {#}} # {n}}}"
        self.assertEqual(told(again, {"n": 5}), "4 2 4 5")

    def test_missing_arguments(self):
        for notation, name in (("{b}{a}", "b"), ("x{w, select, other {}}{a}", "w"), ("{n, plural, other {#}}", "n"),
                               ("{n, plural, other {{a}}}{b}", "n"), ("{a}", "a")):
            with self.assertRaises(MissingArgument) as caught:
                told(notation, {"x": 1})
            self.assertEqual(caught.exception.name, name)
        with self.assertRaises(MissingArgument) as caught:
            told("{n, plural, other {{w, select, x {{b}} other {}}{a}}}", {"n": 1, "w": "x"})
        self.assertEqual(caught.exception.name, "b")

    def test_wrong_arguments(self):
        for notation, name in (("{w, select, other {}}", "w"), ("{w}{n, plural, other {}}", "n"),
                               ("{n}{w, select, x {{a}} other {{b}}}{a}", "w")):
            with self.assertRaises(WrongArgument) as caught:
                told(notation, {"w": 1, "n": "1"})
            self.assertEqual(caught.exception.name, name)
        with self.assertRaises(WrongArgument):
            told("{w, select, other {}}", {"w": 0})
        with self.assertRaises(WrongArgument):
            told("{n, plural, other {}}", {"n": ""})

    def test_the_first_node_that_asks_tells(self):
        with self.assertRaises(WrongArgument):
            told("{n, plural, other {}}{a}", {"n": "x"})
        with self.assertRaises(MissingArgument):
            told("{a}{n, plural, other {}}", {"n": "x"})

    def test_cases_that_are_not_chosen_are_not_looked_at(self):
        notation = "{w, select, x {{a}{n, select, other {}}} y {ok} other {{w, plural, other {}}}}"
        self.assertEqual(told(notation, {"w": "y", "n": 1}), "ok")
        notation = "{n, plural, =1 {{a}{n, select, other {}}} one {{a}} other {#}}"
        self.assertEqual(told(notation, {"n": 2}), "2")

    def test_bad_messages_are_shown_too(self):
        with self.assertRaises(WrongArgument):
            told("{n, plural, other {{n, select, other {}}}}", {"n": 2})

    def test_counted(self):
        node = ("plural", "n", 1, [(1, [("text", "a")]), ("one", [("text", "b")]), (7, [])], [("text", "c")])
        for number, message in ((0, node[4]), (1, node[3][0][1]), (2, node[3][1][1]), (3, node[4]), (7, [])):
            self.assertEqual(counted(node, EN, number), message)
        self.assertEqual(counted(node, NONE, 2), node[4])

    def test_deep_messages(self):
        message = deep_message(6000, [("show", "a")])
        self.assertEqual(shown(message, NONE, {"w": "z", "n": 1, "a": "end"}), "end")
        self.assertEqual(shown(message, NONE, {"w": "x", "n": 1}), "")

    def test_small_messages(self):
        chance = random_with(1)
        for _ in range(500):
            language = chance.choice(LANGUAGES)
            message = small_message(chance, 3)
            before = copy.deepcopy(message)
            for _ in range(5):
                arguments = small_arguments(chance)
                kept = dict(arguments)
                text = shown(message, language, arguments)
                self.assertEqual(text, "".join(parts_for(message, language, arguments, {
                    **arguments, "z": str(arguments["z"])}, None)))
                self.assertEqual(text, shown(plain(message), language, arguments))
                self.assertEqual(arguments, kept)
            self.assertEqual(message, before)


if __name__ == "__main__":
    unittest.main()
