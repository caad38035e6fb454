import copy
import unittest

from messageways.errors import BadMessage
from messageways.messages import (
    CATEGORIES, cases_of, inner_messages, kinds_of, other_of, plain, size_of)
from tests.building import deep_message, random_messages

LOOSE = [
    ("text", ""), ("text", "a"), ("text", ""), ("text", "b"), ("text", "c"),
    ("select", "w", [
        ("x", [("text", ""), ("text", "")]),
        ("y", [("text", "d"), ("text", "e"), ("show", "s"), ("text", "f"), ("text", "")]),
    ], [
        ("plural", "n", 2, [
            (0, [("text", "g"), ("number",), ("text", ""), ("text", "h"), ("text", "\n")]),
            ("one", [("text", "")]),
        ], [("text", "i"), ("text", "j")]),
    ]),
    ("text", "k"), ("text", "l"), ("text", ""),
]

LOOSE_IN_PLAIN_FORM = [
    ("text", "abc"),
    ("select", "w", [
        ("x", []),
        ("y", [("text", "de"), ("show", "s"), ("text", "f")]),
    ], [
        ("plural", "n", 2, [
            (0, [("text", "g"), ("number",), ("text", "h\n")]),
            ("one", []),
        ], [("text", "ij")]),
    ]),
    ("text", "kl"),
]


class PlainTest(unittest.TestCase):
    def test_texts_at_all_depths(self):
        self.assertEqual(plain(LOOSE), LOOSE_IN_PLAIN_FORM)

    def test_small_ones(self):
        self.assertEqual(plain([]), [])
        self.assertEqual(plain([("text", "")]), [])
        self.assertEqual(plain([("text", ""), ("text", "")]), [])
        self.assertEqual(plain([("text", "a"), ("text", ""), ("text", "b")]), [("text", "ab")])
        self.assertEqual(plain([("show", "a"), ("text", ""), ("show", "a")]), [("show", "a")] * 2)
        self.assertEqual(plain([("plural", "n", 0, [], [])]), [("plural", "n", 0, [], [])])
        self.assertEqual(plain([("select", "w", [], [("text", "")])]), [("select", "w", [], [])])

    def test_texts_around_a_node_stay_apart(self):
        message = [("text", "a"), ("show", "s"), ("text", "b")]
        self.assertEqual(plain(message), message)

    def test_a_plain_form_is_plain(self):
        self.assertEqual(plain(LOOSE_IN_PLAIN_FORM), LOOSE_IN_PLAIN_FORM)
        for message in random_messages(300, 3):
            self.assertEqual(plain(message), message)

    def test_it_is_new_and_changes_nothing(self):
        before = copy.deepcopy(LOOSE)
        told = plain(LOOSE)
        self.assertIsNot(told, LOOSE)
        self.assertEqual(LOOSE, before)

    def test_deep_messages(self):
        message = plain(deep_message(5000, [("text", "a"), ("text", "b")]))
        while message[0][0] != "text":
            message = message[0][3] if message[0][0] == "select" else message[0][3][0][1]
        self.assertEqual(message, [("text", "ab")])


class SizeTest(unittest.TestCase):
    def test_texts_count_by_characters(self):
        self.assertEqual(size_of([]), 0)
        self.assertEqual(size_of([("text", "")]), 0)
        self.assertEqual(size_of([("text", "a")]), 1)
        self.assertEqual(size_of([("text", "it's\n{}#")]), 8)
        self.assertEqual(size_of([("text", "ab"), ("text", "cd")]), 4)

    def test_other_nodes_count_one(self):
        self.assertEqual(size_of([("show", "abcdefgh")]), 1)
        self.assertEqual(size_of([("number",), ("number",)]), 2)
        self.assertEqual(size_of([("select", "w", [], [])]), 1)
        self.assertEqual(size_of([("plural", "n", 5, [(3, []), ("one", [])], [])]), 1)

    def test_all_the_way_down(self):
        self.assertEqual(size_of(LOOSE), 17)
        self.assertEqual(size_of(LOOSE_IN_PLAIN_FORM), 17)
        self.assertEqual(size_of(deep_message(5000, [("text", "abc")])), 5003)

    def test_nothing_is_changed(self):
        before = copy.deepcopy(LOOSE)
        size_of(LOOSE)
        self.assertEqual(LOOSE, before)


class InnerTest(unittest.TestCase):
    SELECT = ("select", "w", [("x", [("text", "a")]), ("y", [])], [("text", "c")])
    PLURAL = ("plural", "n", 3, [(7, [("number",)]), ("one", [])], [("show", "s")])

    def test_select(self):
        self.assertEqual(cases_of(self.SELECT), [("x", [("text", "a")]), ("y", [])])
        self.assertEqual(other_of(self.SELECT), [("text", "c")])
        self.assertEqual(inner_messages(self.SELECT), [[("text", "a")], [], [("text", "c")]])

    def test_plural(self):
        self.assertEqual(cases_of(self.PLURAL), [(7, [("number",)]), ("one", [])])
        self.assertEqual(other_of(self.PLURAL), [("show", "s")])
        self.assertEqual(inner_messages(self.PLURAL), [[("number",)], [], [("show", "s")]])

    def test_without_cases(self):
        for node in [("select", "w", [], [("text", "o")]), ("plural", "n", 0, [], [("text", "o")])]:
            self.assertEqual(cases_of(node), [])
            self.assertEqual(other_of(node), [("text", "o")])
            self.assertEqual(inner_messages(node), [[("text", "o")]])

    def test_other_nodes_have_none(self):
        for node in [("text", ""), ("text", "ab"), ("show", "s"), ("number",)]:
            self.assertEqual(inner_messages(node), [])

    def test_lists_are_new(self):
        for node in [self.SELECT, self.PLURAL]:
            before = copy.deepcopy(node)
            cases_of(node).append(("z", []))
            inner_messages(node).append([])
            self.assertEqual(node, before)


class KindsTest(unittest.TestCase):
    def assert_bad(self, name, message):
        before = copy.deepcopy(message)
        with self.assertRaises(BadMessage) as caught:
            kinds_of(message)
        self.assertEqual(caught.exception.name, name)
        self.assertEqual(message, before)

    def test_each_kind(self):
        self.assertEqual(kinds_of([]), {})
        self.assertEqual(kinds_of([("text", "a"), ("number",)]), {})
        self.assertEqual(kinds_of([("show", "a")]), {"a": "any"})
        self.assertEqual(kinds_of([("select", "a", [], [])]), {"a": "text"})
        self.assertEqual(kinds_of([("plural", "a", 0, [], [])]), {"a": "number"})

    def test_a_show_goes_with_either(self):
        show = ("show", "a")
        for node, kind in [(("select", "a", [], []), "text"), (("plural", "a", 1, [], []), "number")]:
            self.assertEqual(kinds_of([show, node]), {"a": kind})
            self.assertEqual(kinds_of([node, show]), {"a": kind})
            self.assertEqual(kinds_of([node, show, node, show]), {"a": kind})

    def test_all_depths(self):
        self.assertEqual(kinds_of(LOOSE), {"n": "number", "s": "any", "w": "text"})
        deep = deep_message(5000, [("show", "a")])
        self.assertEqual(kinds_of(deep), {"a": "any", "n": "number", "w": "text"})

    def test_words_and_keys_are_no_names(self):
        message = [("select", "a", [("b", [])], [("plural", "c", 0, [("one", [])], [])])]
        self.assertEqual(kinds_of(message), {"a": "text", "c": "number"})

    def test_names_ascend(self):
        names = ["zz", "b", "ab", "z", "a", "aaaaaaaa"]
        message = [("show", name) for name in names]
        self.assertEqual(list(kinds_of(message)), ["a", "aaaaaaaa", "ab", "b", "z", "zz"])

    def test_bad_messages(self):
        select, plural = ("select", "a", [], []), ("plural", "a", 0, [], [])
        self.assert_bad("a", [select, plural])
        self.assert_bad("a", [plural, select])
        self.assert_bad("a", [("show", "a"), select, ("show", "a"), plural])
        self.assert_bad("a", [("plural", "a", 0, [], [select])])
        self.assert_bad("a", [("plural", "a", 0, [(5, [select])], [])])
        self.assert_bad("a", [("select", "a", [("x", [plural])], [])])

    def test_the_first_node_that_asks_otherwise(self):
        asks = {(kind, name): (kind, name, *middle, [], []) for name in "ab"
                for kind, middle in [("select", []), ("plural", [0])]}
        words = [asks["select", "a"], asks["select", "b"]]
        self.assert_bad("b", words + [asks["plural", "b"], asks["plural", "a"]])
        self.assert_bad("a", words + [asks["plural", "a"], asks["plural", "b"]])

    def test_order_of_the_notation(self):
        def number(name):
            return ("plural", name, 0, [], [])

        words = [("select", "a", [], []), ("select", "b", [], []), ("select", "c", [], [])]
        # A choice comes before what is within it, cases before the other message.
        self.assert_bad("c", words + [("plural", "c", 0, [(0, [number("b")])], [number("a")])])
        choice = ("plural", "d", 0, [(9, [number("b")]), (1, [number("c")])], [number("a")])
        self.assert_bad("b", words + [choice])
        choice = ("plural", "d", 0, [(9, []), (1, [number("c")])], [number("a")])
        self.assert_bad("c", words + [choice])
        # Nodes of a message within come one behind the other.
        for inner in [("plural", "d", 0, [(5, [number("b"), number("a")])], []),
                      ("plural", "d", 0, [], [number("b"), number("a")])]:
            self.assert_bad("b", words + [inner])
        # What is within a choice comes before what is behind it.
        self.assert_bad("a", words + [("plural", "d", 0, [], [number("a")]), number("b")])

    def test_nothing_is_changed(self):
        before = copy.deepcopy(LOOSE)
        kinds_of(LOOSE)
        self.assertEqual(LOOSE, before)


class CategoriesTest(unittest.TestCase):
    def test_their_order(self):
        self.assertEqual(list(CATEGORIES), ["zero", "one", "two", "few", "many"])


if __name__ == "__main__":
    unittest.main()
