import copy
import unittest

from messageways.notation import format_message, parse_message
from tests.building import canonical, deep_message, random_messages, spaced


class FormatTest(unittest.TestCase):
    def assert_notation(self, message, notation):
        before = copy.deepcopy(message)
        self.assertEqual(format_message(message), notation)
        self.assertEqual(message, before)

    def test_texts(self):
        self.assert_notation([], "")
        self.assert_notation([("text", "")], "")
        self.assert_notation([("text", "a b")], "a b")
        self.assert_notation([("text", "two\nlines \n")], "two\nlines \n")
        self.assert_notation([("text", "a"), ("text", ""), ("text", "b")], "ab")
        every = "".join([chr(code) for code in range(32, 127) if chr(code) not in "'{}#"])
        self.assert_notation([("text", every)], every)

    def test_escapes(self):
        self.assert_notation([("text", "'")], "''")
        self.assert_notation([("text", "it's")], "it''s")
        self.assert_notation([("text", "{")], "'{'")
        self.assert_notation([("text", "}")], "'}'")
        self.assert_notation([("text", "#")], "'#'")
        self.assert_notation([("text", "{}#'")], "'{''}''#'''")
        self.assert_notation([("text", "'{'")], "'''{'''")

    def test_show_and_number(self):
        self.assert_notation([("show", "a")], "{a}")
        self.assert_notation([("show", "abcdefgh"), ("show", "b")], "{abcdefgh}{b}")
        self.assert_notation([("plural", "n", 0, [], [("number",), ("text", "#")])],
                             "{n, plural, other {#'#'}}")

    def test_select(self):
        self.assert_notation([("select", "w", [], [])], "{w, select, other {}}")
        self.assert_notation([("select", "name", [("word", [("text", "m")])], [("text", "o")])],
                             "{name, select, word {m} other {o}}")
        cases = [("z", [("text", " ")]), ("a", []), ("one", [("show", "w")])]
        self.assert_notation([("select", "w", cases, [])],
                             "{w, select, z { } a {} one {{w}} other {}}")

    def test_plural(self):
        self.assert_notation([("plural", "n", 0, [], [])], "{n, plural, other {}}")
        cases = [(0, [("text", "m")]), ("one", [("text", "l")])]
        self.assert_notation([("plural", "name", 1, cases, [("number",)])],
                             "{name, plural, offset:1 =0 {m} one {l} other {#}}")
        self.assert_notation([("plural", "n", 9, [], [])], "{n, plural, offset:9 other {}}")
        cases = [("many", []), (999, []), (10, []), ("few", []), ("two", []), ("zero", []), (0, [])]
        self.assert_notation(
            [("plural", "n", 0, cases, [])],
            "{n, plural, many {} =999 {} =10 {} few {} two {} zero {} =0 {} other {}}")

    def test_choices_within_choices(self):
        inner = ("select", "w", [("x", [("number",)])], [("text", "}")])
        message = [("text", "a"), ("plural", "n", 0, [(1, [inner])], [inner]), ("text", "b")]
        told = "{w, select, x {#} other {'}'}}"
        self.assert_notation(message, "a{n, plural, =1 {" + told + "} other {" + told + "}}b")

    def test_against_another_writer(self):
        for message in random_messages(500, 3, seed=2):
            self.assert_notation(message, spaced(message, canonical))

    def test_deep_messages(self):
        notation = format_message(deep_message(5000, [("text", "#")]))
        self.assertEqual(notation[:44], "{n, plural, =1 {{w, select, x {} other {{n, ")
        self.assertIn("other {'#'}}} other {}}}", notation)
        self.assertEqual(format_message(parse_message(notation)), notation)


if __name__ == "__main__":
    unittest.main()
