import copy
import unittest

from messageways.edits import Book, message_at, replaced
from messageways.errors import NoSuchKey, NoSuchPlace
from messageways.messages import plain
from messageways.notation import format_message, parse_message
from tests.building import deep_message
from tests.small import random_with, small_message
from tests.slow_ways import inner_rows

NOTATION = ("a{n, plural, =1 {b{w, select, x {c} one {} other {d}}} one {e} other {{w, select, other {{n}}}#}}{v}"
            "{w, select, y {{n, plural, other {f}}} other {g}}")
MESSAGE = parse_message(NOTATION)
WRONG_PATHS = (
    # A place beyond, or ahead of all.
    ((4, "x"),), ((99, "other"),), ((-1, "y"),), ((-3, 1),), ((1, 1), (2, "x")), ((1, "one"), (1, "x")),
    ((1, 1), (1, "one"), (0, "other")),
    # A node that is no choice.
    ((0, "other"),), ((2, "v"),), ((2, "other"),), ((1, 1), (0, "x")), ((1, "other"), (1, "other")),
    ((1, "other"), (0, "other"), (0, "other")),
    # A key that no case has.
    ((1, 2),), ((1, "1"),), ((1, "two"),), ((3, "x"),), ((3, 1),), ((1, 1), (1, "y")), ((3, "y"), (0, "one")),
    # What comes later does not count.
    ((1, 2), (99, "x")), ((0, "other"), (1, 1)),
)


class PlacesTest(unittest.TestCase):
    def test_message_at(self):
        for path, notation in (((), NOTATION), (((1, 1),), "b{w, select, x {c} one {} other {d}}"),
                               (((1, 1), (1, "x")), "c"),
                               (((1, 1), (1, "one")), ""), (((1, 1), (1, "other")), "d"), (((1, "one"),), "e"),
                               (((1, "other"), (0, "other")), "{n}"), (((3, "y"),), "{n, plural, other {f}}"),
                               (((3, "y"), (0, "other")), "f"), (((3, "other"),), "g")):
            self.assertEqual(format_message(message_at(MESSAGE, path)), notation)
        self.assertEqual(message_at([], ()), [])
        self.assertEqual(message_at(MESSAGE, ((1, "other"),))[1], ("number",))

    def test_replaced(self):
        for path, notation in (
                ((), "NEW"), (((1, 1),), NOTATION.replace("b{w, select, x {c} one {} other {d}}", "NEW")),
                (((1, 1), (1, "one")), NOTATION.replace("one {} other", "one {NEW} other")),
                (((1, 1), (1, "other")), NOTATION.replace("{d}", "{NEW}")),
                (((1, "one"),), NOTATION.replace("{e}", "{NEW}")),
                (((1, "other"), (0, "other")), NOTATION.replace("{{n}}", "{NEW}")),
                (((1, "other"),), NOTATION.replace("{{w, select, other {{n}}}#}", "{NEW}")),
                (((3, "y"), (0, "other")), NOTATION.replace("{f}", "{NEW}")),
                (((3, "other"),), NOTATION.replace("{g}", "{NEW}"))):
            self.assertEqual(format_message(replaced(MESSAGE, path, [("text", "NEW")])), notation)
        self.assertEqual(format_message(MESSAGE), NOTATION)

    def test_no_such_place(self):
        before = copy.deepcopy(MESSAGE)
        for path in WRONG_PATHS:
            for call in (lambda: message_at(MESSAGE, path), lambda: replaced(MESSAGE, path, [])):
                with self.subTest(path=path), self.assertRaises(NoSuchPlace) as caught:
                    call()
                self.assertEqual(caught.exception.path, path)
        self.assertEqual(MESSAGE, before)

    def test_every_path(self):
        chance = random_with(90)
        for _ in range(100):
            message = small_message(chance, 3)
            before = copy.deepcopy(message)
            inner = small_message(chance, 1, inside=True)
            inner_before = copy.deepcopy(inner)
            rows = [((), message)] + inner_rows(message)
            for path, part in rows:
                self.assertEqual(message_at(message, path), part)
                other = replaced(message, path, inner)
                self.assertEqual(message_at(other, path), inner)
                self.assertEqual(replaced(other, path, part), message)
                # All that is neither within nor around is as it was.
                for beside, kept in rows:
                    if beside[:len(path)] != path and path[:len(beside)] != beside:
                        self.assertEqual(message_at(other, beside), kept)
            self.assertEqual((message, inner), (before, inner_before))

    def test_deep_messages(self):
        deep = deep_message(3000, [("show", "a")])
        path = tuple([(0, "other" if level % 2 == 0 else 1) for level in range(2999, -1, -1)])
        self.assertEqual(message_at(deep, path), [("show", "a")])
        self.assertEqual(format_message(replaced(deep, path, [("show", "b")])),
                         format_message(deep_message(3000, [("show", "b")])))


class BookTest(unittest.TestCase):
    def check(self, book, **notations):
        self.assertEqual(book.messages(), {key: parse_message(notation) for key, notation in notations.items()})

    def test_put_drop_and_change(self):
        book = Book()
        self.check(book)
        self.assertIs(book.put("b", parse_message("b")), False)
        self.assertIs(book.put("a", parse_message("{w, select, x {1} other {2}}")), False)
        self.check(book, a="{w, select, x {1} other {2}}", b="b")
        self.assertIs(book.put("b", parse_message("c")), True)
        self.assertIs(book.change("a", ((0, "x"),), parse_message("{n}")), True)
        self.check(book, a="{w, select, x {{n}} other {2}}", b="c")
        self.assertIs(book.change("a", (), []), True)
        self.check(book, a="", b="c")
        self.assertEqual(book.drop("b"), [("text", "c")])
        self.check(book, a="")
        self.assertIs(book.put("b", []), False)
        self.assertIs(book.put("a", []), True)
        self.assertEqual(book.drop("a"), [])
        self.check(book, b="")

    def test_undo_each_deed(self):
        book = Book()
        self.assertIs(book.undo(), False)
        book.put("a", parse_message("1"))
        book.put("a", parse_message("2"))
        book.put("b", parse_message("{w, select, other {3}}"))
        book.change("b", ((0, "other"),), parse_message("4"))
        book.drop("a")
        book.drop("b")
        self.check(book)
        for notations in ({"b": "{w, select, other {4}}"}, {"a": "2", "b": "{w, select, other {4}}"},
                          {"a": "2", "b": "{w, select, other {3}}"}, {"a": "2"}, {"a": "1"}, {}):
            self.assertIs(book.undo(), True)
            self.check(book, **notations)
        self.assertIs(book.undo(), False)
        self.check(book)

    def test_what_changes_nothing_is_a_deed_too(self):
        book = Book()
        book.put("a", parse_message("1"))
        book.put("a", parse_message("1"))
        book.change("a", (), parse_message("1"))
        for many in (True, True, True, False):
            self.assertIs(book.undo(), many)
        self.check(book)

    def test_deeds_behind_an_undone_one(self):
        book = Book()
        book.put("a", parse_message("1"))
        book.drop("a")
        book.undo()
        book.put("b", parse_message("2"))
        self.check(book, a="1", b="2")
        book.undo()
        self.check(book, a="1")
        book.undo()
        self.check(book)

    def test_plain_form(self):
        book = Book()
        message = [("text", ""), ("text", "a"),
                   ("select", "w", [("x", [("text", "")])], [("text", "b"), ("text", "c")]), ("text", "d")]
        book.put("a", message)
        self.assertEqual(book.messages(), {"a": plain(message)})
        # The path is one in the message as it is kept.
        book.change("a", ((1, "x"),), [("text", "e"), ("text", "f"), ("text", "")])
        self.check(book, a="a{w, select, x {ef} other {bc}}d")
        book.change("a", (), [("text", ""), ("text", "g"), ("text", "h")])
        self.assertEqual(book.messages(), {"a": [("text", "gh")]})
        self.assertEqual(book.drop("a"), [("text", "gh")])

    def test_errors_change_nothing(self):
        book = Book()
        book.put("a", MESSAGE)
        book.put("b", parse_message("b"))
        for call, key in ((lambda: book.drop("c"), "c"), (lambda: book.change("c", (), []), "c"),
                          (lambda: book.change("c", ((99, "x"),), []), "c")):
            with self.assertRaises(NoSuchKey) as caught:
                call()
            self.assertEqual(caught.exception.key, key)
            self.check(book, a=NOTATION, b="b")
        for path in WRONG_PATHS:
            with self.assertRaises(NoSuchPlace) as caught:
                book.change("a", path, [])
            self.assertEqual(caught.exception.path, path)
            self.check(book, a=NOTATION, b="b")
        self.assertTrue(book.undo())
        self.check(book, a=NOTATION)
        self.assertTrue(book.undo())
        self.assertFalse(book.undo())
        with self.assertRaises(NoSuchKey):
            book.drop("a")

    def test_dicts_that_were_handed_out(self):
        book = Book()
        book.put("a", parse_message("1"))
        handed = book.messages()
        handed["b"] = []
        del handed["a"]
        self.check(book, a="1")
        handed = book.messages()
        book.put("c", [])
        self.assertEqual(list(handed), ["a"])

    def test_messages_that_were_passed_in(self):
        book = Book()
        message = parse_message("{w, select, x {1} other {2}}")
        inner = parse_message("3")
        book.put("a", message)
        book.change("a", ((0, "x"),), inner)
        self.assertEqual(message, parse_message("{w, select, x {1} other {2}}"))
        message[0][2][0][1].append(("text", "!"))
        message.append(("show", "b"))
        inner.append(("show", "b"))
        self.check(book, a="{w, select, x {3} other {2}}")
        book.undo()
        self.check(book, a="{w, select, x {1} other {2}}")

    def test_against_all_states(self):
        chance = random_with(91)
        for _ in range(30):
            book = Book()
            states = [{}]
            for _ in range(40):
                key = chance.choice("abc")
                now = dict(states[-1])
                deed = chance.choice(["put", "put", "drop", "change", "undo"])
                if deed == "put":
                    message = small_message(chance, 2)
                    self.assertEqual(book.put(key, message), key in now)
                    states.append({**now, key: plain(message)})
                elif deed == "undo":
                    self.assertEqual(book.undo(), len(states) > 1)
                    states = states[:-1] or states
                elif key not in now:
                    with self.assertRaises(NoSuchKey):
                        book.drop(key) if deed == "drop" else book.change(key, (), [])
                elif deed == "drop":
                    self.assertEqual(book.drop(key), now.pop(key))
                    states.append(now)
                else:
                    path = chance.choice([()] + [row[0] for row in inner_rows(now[key])])
                    message = small_message(chance, 1)
                    self.assertIs(book.change(key, path, message), True)
                    states.append({**now, key: plain(replaced(now[key], path, message))})
                self.assertEqual(book.messages(), states[-1])


if __name__ == "__main__":
    unittest.main()
