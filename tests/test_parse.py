import unittest

from messageways.notation import format_message, parse_message
from tests.building import canonical, random_messages, simple_messages, spaced

GAPS = ("", " ", "\n", "  ", " \n", "\n\n ", "       ")


class ParseTest(unittest.TestCase):
    def assert_read(self, notation, message):
        self.assertEqual(parse_message(notation), message)

    def test_texts(self):
        self.assert_read("", [])
        self.assert_read("a", [("text", "a")])
        self.assert_read(" a\n b ", [("text", " a\n b ")])
        self.assert_read("other, =1 offset:1!", [("text", "other, =1 offset:1!")])

    def test_escapes(self):
        self.assert_read("''", [("text", "'")])
        self.assert_read("''''", [("text", "''")])
        self.assert_read("'{'", [("text", "{")])
        self.assert_read("'}'", [("text", "}")])
        self.assert_read("'#'", [("text", "#")])
        self.assert_read("'{''}''#'''", [("text", "{}#'")])
        self.assert_read("'''{'''a", [("text", "'{'a")])

    def test_what_is_read_is_plain(self):
        self.assert_read("a''b'{'c{x}''", [("text", "a'b{c"), ("show", "x"), ("text", "'")])
        self.assert_read("{w, select, x {a''b} other {'#'c}}d",
                         [("select", "w", [("x", [("text", "a'b")])], [("text", "#c")]), ("text", "d")])

    def test_show(self):
        for notation in ["{a}", "{ a}", "{a }", "{\na\n}", "{ \n a \n }"]:
            self.assert_read(notation, [("show", "a")])
        self.assert_read("{abcdefgh}", [("show", "abcdefgh")])
        for name in ["select", "plural", "other", "offset", "one"]:
            self.assert_read("{" + name + "}", [("show", name)])

    def test_select(self):
        self.assert_read("{w, select, other {}}", [("select", "w", [], [])])
        self.assert_read("{name, select, word {m} other {o}}",
                         [("select", "name", [("word", [("text", "m")])], [("text", "o")])])
        self.assert_read("{w,select,b{1}a{2}abcdefgh{3}other{4}}", [
            ("select", "w", [("b", [("text", "1")]), ("a", [("text", "2")]),
                             ("abcdefgh", [("text", "3")])], [("text", "4")])])

    def test_words_like_other_things(self):
        self.assert_read("{select, select, select {} plural {} offset {} one {} other {}}", [
            ("select", "select", [("select", []), ("plural", []), ("offset", []), ("one", [])], [])])
        self.assert_read("{other, plural, other {}}", [("plural", "other", 0, [], [])])

    def test_plural(self):
        self.assert_read("{n, plural, other {}}", [("plural", "n", 0, [], [])])
        self.assert_read("{name, plural, offset:1 =0 {m} one {l} other {#}}", [
            ("plural", "name", 1, [(0, [("text", "m")]), ("one", [("text", "l")])], [("number",)])])
        self.assert_read(
            "{n, plural, many {} =999 {} =10 {} few {} two {} zero {} =1 {} one {} =0 {} other {}}",
            [("plural", "n", 0, [("many", []), (999, []), (10, []), ("few", []), ("two", []),
                                 ("zero", []), (1, []), ("one", []), (0, [])], [])])

    def test_offsets(self):
        for offset in range(10):
            for gap in ["", " ", "\n"]:
                self.assert_read("{n, plural, offset:" + str(offset) + gap + "other {}}",
                                 [("plural", "n", offset, [], [])])
        self.assert_read("{n,plural,offset:2=3{}other{}}", [("plural", "n", 2, [(3, [])], [])])

    def test_numbers(self):
        self.assert_read("{n, plural, other {a#'#'#}}",
                         [("plural", "n", 0, [], [("text", "a"), ("number",), ("text", "#"), ("number",)])])
        self.assert_read("{n, plural, one {#} other {{w, select, x {#} other {#}}}}", [
            ("plural", "n", 0, [("one", [("number",)])],
             [("select", "w", [("x", [("number",)])], [("number",)])])])
        self.assert_read("{w, select, other {{n, plural, other {#}}}}",
                         [("select", "w", [], [("plural", "n", 0, [], [("number",)])])])
        self.assert_read("{n, plural, =1 {{m, plural, other {#}}#} other {}}", [
            ("plural", "n", 0, [(1, [("plural", "m", 0, [], [("number",)]), ("number",)])], [])])

    def test_spaces_in_messages_are_texts(self):
        self.assert_read("{w, select, x { } other {\n}} ", [
            ("select", "w", [("x", [("text", " ")])], [("text", "\n")]), ("text", " ")])

    def test_bad_messages_are_read(self):
        self.assert_read("{a, select, other {}}{a, plural, other {}}",
                         [("select", "a", [], []), ("plural", "a", 0, [], [])])


class ReadBackTest(unittest.TestCase):
    def assert_read_back(self, message):
        self.assertEqual(parse_message(format_message(message)), message)

    def assert_read_with(self, message, gap):
        self.assertEqual(parse_message(spaced(message, gap)), message)

    def test_messages_of_one_level(self):
        for message in simple_messages(False):
            self.assert_read_back(message)

    def test_messages_of_two_levels(self):
        for inner in simple_messages(False):
            self.assert_read_back([("select", "w", [], inner)])
            self.assert_read_back([("select", "w", [("x", inner)], [])])
        for inner in simple_messages(True):
            self.assert_read_back([("plural", "n", 9, [], inner)])
            self.assert_read_back([("plural", "n", 0, [(999, inner), ("one", inner)], [])])

    def test_messages_of_three_levels(self):
        for inner in simple_messages(True):
            choices = [("select", "w", [("x", inner)], inner), ("plural", "m", 1, [(0, inner)], inner)]
            for choice in choices:
                for message in [[choice], [("text", "'"), choice, ("number",)]]:
                    self.assert_read_back([("plural", "n", 0, [("two", message)], [])])
                    self.assert_read_back([("plural", "n", 0, [], message), ("text", "'")])

    def test_random_messages(self):
        for message in random_messages(1500, 3, seed=3):
            self.assert_read_back(message)

    def test_other_spaces(self):
        for message in random_messages(300, 3, seed=4):
            self.assert_read_with(message, canonical)
            for one in GAPS:
                self.assert_read_with(message, lambda _: one)

    def test_spaces_of_all_kinds_at_once(self):
        for count, message in enumerate(random_messages(300, 3, seed=5)):
            told = [count]

            def by_turns(_):
                told[0] += 1
                return GAPS[told[0] % len(GAPS)]

            self.assert_read_with(message, by_turns)

    def test_spaces_at_each_place_alone(self):
        message = [("plural", "n", 3, [(0, [("select", "w", [("x", [("show", "s")])], [])]),
                                       ("one", [])], [("number",)])]
        places = []
        spaced(message, lambda gap: places.append(gap) or gap)
        for at in range(len(places)):
            for one in GAPS:
                told = [-1]

                def only_here(gap):
                    told[0] += 1
                    return one if told[0] == at else gap

                self.assert_read_with(message, only_here)


if __name__ == "__main__":
    unittest.main()
