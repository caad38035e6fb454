import copy
import unittest

from messageways.diagrams import diagram_of, many_nodes, restricted, text_at
from messageways.errors import BadMessage
from messageways.languages import Language, parse_language
from messageways.notation import parse_message
from tests.building import deep_message
from tests.small import ENGLISH, RUSSIAN, LANGUAGES, random_with, small_message
from tests.slow_diagrams import put_in, slow_diagram

NONE = Language([])
EN = parse_language(ENGLISH)
RU = parse_language(RUSSIAN)


def of(notation, language=EN):
    return diagram_of(parse_message(notation), language)


def leaf(*parts):
    return ("leaf", parts)


def show(name, offset=0):
    return ("show", name, offset)


class LeafTest(unittest.TestCase):
    def test_parts(self):
        self.assertEqual(of(""), leaf())
        self.assertEqual(of("a"), leaf("a"))
        self.assertEqual(of("{a}"), leaf(show("a")))
        self.assertEqual(of("a{a}b{b}{a}c"), leaf("a", show("a"), "b", show("b"), show("a"), "c"))

    def test_rows_are_short(self):
        message = [("text", "a"), ("text", ""), ("text", "b"), ("show", "a"), ("text", ""), ("show", "b"), ("text", "")]
        self.assertEqual(diagram_of(message, EN), leaf("ab", show("a"), show("b")))
        self.assertEqual(diagram_of([("text", ""), ("text", "")], EN), leaf())
        self.assertEqual(of("a{w, select, other {b}}c{n, plural, other {}}d"), leaf("abcd"))

    def test_numbers_less_an_offset(self):
        self.assertEqual(of("{n, plural, other {#}}"), leaf(show("n")))
        self.assertEqual(of("{n, plural, other {#}}"), of("{n}"))
        self.assertEqual(of("{n, plural, offset:2 other {# {n} {p, plural, offset:1 other {#}}#}}"),
                         leaf(show("n", 2), " ", show("n"), " ", show("p", 1), show("n", 2)))


class WordTest(unittest.TestCase):
    def test_cases_by_ascending_words(self):
        self.assertEqual(of("{w, select, x {1} b {2} abc {3} ab {4} other {5}}"),
                         ("word", "w", (("ab", leaf("4")), ("abc", leaf("3")), ("b", leaf("2")), ("x", leaf("1"))),
                          leaf("5")))

    def test_the_word_is_put_in(self):
        self.assertEqual(of("{w, select, x {is {w}} other {not {w}}} {w}"),
                         ("word", "w", (("x", leaf("is x x")),), leaf("not ", show("w"), " ", show("w"))))

    def test_no_case_is_the_other_one_with_the_word_put_in(self):
        self.assertEqual(of("{w, select, x {1} other {1}}"), leaf("1"))
        self.assertEqual(of("{w, select, x {x1} y {y} other {{w}1}}"),
                         ("word", "w", (("y", leaf("y")),), leaf(show("w"), "1")))
        self.assertEqual(of("{w, select, x {x} y {y} other {{w}}}"), leaf(show("w")))
        self.assertEqual(of("{a, select, x {{b, select, y {xy} other {x{b}}}} other {{a}{b}}}"),
                         leaf(show("a"), show("b")))
        self.assertEqual(of("{a, select, x {{b, select, y {1} other {x{b}}}} other {{b, select, y {1} other {{a}{b}}}}}"),
                         ("word", "b", (("y", leaf("1")),), leaf(show("a"), show("b"))))

    def test_a_case_that_differs_in_a_deeper_case_alone(self):
        inner = "{b, select, y {1} other {2}}"
        self.assertEqual(of("{a, select, x {{b, select, y {1} other {x}}} other {%s}}" % inner),
                         ("word", "a", (("x", ("word", "b", (("y", leaf("1")),), leaf("x"))),),
                          ("word", "b", (("y", leaf("1")),), leaf("2"))))

    def test_choices_by_the_same_name(self):
        self.assertEqual(of("{w, select, x {1} other {2}}{w, select, y {3} other {4}}"),
                         ("word", "w", (("x", leaf("14")), ("y", leaf("23"))), leaf("24")))
        self.assertEqual(of("{w, select, x {{w, select, x {1} other {2}}} other {{w, select, x {3} other {4}}}}"),
                         ("word", "w", (("x", leaf("1")),), leaf("4")))


class NumberTest(unittest.TestCase):
    def test_the_number_is_put_into_the_head_alone(self):
        self.assertEqual(of("{n, plural, one {# file} other {# files}}"),
                         ("number", "n", (leaf("0 files"), leaf("1 file")), (leaf(show("n"), " files"),)))

    def test_numbers_below_0(self):
        self.assertEqual(of("{n, plural, offset:3 one {#!} other {#}}", parse_language("one: n mod 2 in 0..1")),
                         ("number", "n", (leaf("-3"), leaf("-2"), leaf("-1")), (leaf(show("n", 3), "!"),)))

    def test_keys_categories_and_offsets(self):
        self.assertEqual(of("{n, plural, offset:1 =1 {a} one {b} other {c}}"),
                         ("number", "n", (leaf("c"), leaf("a"), leaf("b")), (leaf("c"),)))
        self.assertEqual(of("{n, plural, =1 {a} one {b} other {c}}"), of("{n, plural, =1 {a} other {c}}"))
        self.assertEqual(of("{n, plural, two {a} other {c}}"), leaf("c"))

    def test_the_shortest_cycle(self):
        evens = parse_language("one: n mod 4 in 0,2")
        self.assertEqual(of("{n, plural, one {a} other {b}}", evens), ("number", "n", (), (leaf("a"), leaf("b"))))
        self.assertEqual(of("{n, plural, one {a} other {a}}", evens), leaf("a"))
        twos = parse_language("one: n mod 3 in 0\nmany: n mod 2 in 0")
        self.assertEqual(of("{n, plural, one {a} many {b} other {b}}", twos),
                         ("number", "n", (), (leaf("a"), leaf("b"), leaf("b"))))
        self.assertEqual(len(of("{n, plural, one {a} many {b} other {c}}", twos)[3]), 6)

    def test_the_shortest_head(self):
        language = parse_language("one: n in 3 or n mod 2 in 1")
        self.assertEqual(of("{n, plural, one {a} other {b}}", language), ("number", "n", (), (leaf("b"), leaf("a"))))
        self.assertEqual(of("{n, plural, =5 {5!} other {#!}}"), leaf(show("n"), "!"))
        self.assertEqual(of("{n, plural, =2 {z} =5 {5!} other {#!}}"),
                         ("number", "n", (leaf("0!"), leaf("1!"), leaf("z")), (leaf(show("n"), "!"),)))
        odd = parse_language("many: n mod 2 in 1")
        self.assertEqual(of("{n, plural, =0 {z} =3 {3} many {#} other {e}}", odd),
                         ("number", "n", (leaf("z"),), (leaf(show("n")), leaf("e"))))

    def test_an_empty_head_and_one_diagram_are_that_diagram(self):
        self.assertEqual(of("{n, plural, =0 {0} =1 {1} other {#}}"), leaf(show("n")))
        self.assertEqual(of("{n, plural, one {{w, select, x {1} other {{n}}}} other {{w, select, x {1} other {#}}}}"),
                         ("word", "w", (("x", leaf("1")),), leaf(show("n"))))
        # With 1 put in, the choice by w shows the same text for all words.
        self.assertEqual(of("{n, plural, =2 {} other {{w, select, x {1} other {#}}}}"),
                         ("number", "n", (("word", "w", (("x", leaf("1")),), leaf("0")), leaf("1"), leaf()),
                          (("word", "w", (("x", leaf("1")),), leaf(show("n"))),)))

    def test_great_keys(self):
        kind, name, head, cycle = of("{n, plural, =999 {x} other {#}}")
        self.assertEqual((kind, name, cycle), ("number", "n", (leaf(show("n")),)))
        self.assertEqual(head, tuple([leaf(str(number)) for number in range(999)] + [leaf("x")]))

    def test_great_cycles_and_heads(self):
        language = parse_language("one: n in 9999\nfew: n mod 100 in 3 and n mod 97 in 5")
        diagram = of("{n, plural, one {a} few {b} other {c}}", language)
        self.assertEqual((len(diagram[2]), len(diagram[3])), (10000, 9700))
        self.assertEqual(many_nodes(diagram), 4)
        self.assertEqual(restricted(diagram, "n", 10 ** 20 * 9700 + 3303), leaf("b"))
        self.assertEqual(restricted(diagram, "n", 10 ** 20 * 9700 + 299), leaf("c"))

    def test_only_rules_that_count_make_cycles(self):
        language = parse_language("\n".join([
            "zero: n mod 2 in 0", "one: n mod 97 in 0", "two: n mod 89 in 0", "few: n mod 83 in 0",
            "many: n mod 79 in 0"]))
        self.assertEqual(len(of("{n, plural, one {a} other {b}}", language)[3]), 194)
        language = parse_language("\n".join([
            "one: n mod 97 in 0", "two: n mod 89 in 0", "few: n mod 83 in 0", "many: n mod 79 in 0"]))
        self.assertEqual(len(of("{n, plural, zero {a} one {a} other {b}}", language)[3]), 97)


class ShapeTest(unittest.TestCase):
    def test_names_ascend(self):
        for notation in ("{b, select, x {1} other {2}}{a, plural, one {3} other {4}}",
                         "{b, select, x {{a, plural, one {13} other {14}}} other {2{a, plural, one {3} other {4}}}}",
                         "{a, plural, one {{b, select, x {13} other {23}}} other {{b, select, x {1} other {2}}4}}"):
            self.assertEqual(of(notation), (
                "number", "a",
                (("word", "b", (("x", leaf("14")),), leaf("24")), ("word", "b", (("x", leaf("13")),), leaf("23"))),
                (("word", "b", (("x", leaf("14")),), leaf("24")),)))

    def test_names_that_are_only_shown_stand_in_no_choice(self):
        diagram = of("{a}{b, select, x {{c}} other {{a}}}")
        self.assertEqual(diagram, ("word", "b", (("x", leaf(show("a"), show("c"))),), leaf(show("a"), show("a"))))

    def test_holes(self):
        message = [("hole", "a"), ("plural", "n", 1, [(2, [("hole", "b"), ("number",)])], [
            ("select", "w", [("x", [("hole", "a")])], [("hole", "b"), ("text", "t")])])]
        around = ("n", 1)

        def at(left):
            return ("word", "w", (("x", leaf(("hole", "a", None), ("hole", "a", left))),),
                    leaf(("hole", "a", None), ("hole", "b", left), "t"))
        self.assertEqual(diagram_of(message, EN), (
            "number", "n", (at(-1), at(0), leaf(("hole", "a", None), ("hole", "b", 1), "1")), (at(around),)))
        self.assertEqual(restricted(diagram_of(message, EN), "n", 9), at(8))
        self.assertEqual(restricted(at(around), "n", 3), at(2))

    def test_holes_of_the_outer_plural(self):
        message = [("plural", "n", 1, [], [("hole", "a"), ("plural", "p", 2, [], [("hole", "a")]), ("hole", "b")])]
        self.assertEqual(diagram_of(message, EN), leaf(
            ("hole", "a", ("n", 1)), ("hole", "a", ("p", 2)), ("hole", "b", ("n", 1))))

    def test_bad_messages(self):
        for notation, name in (("{a, plural, other {{a, select, other {}}}}", "a"),
                               ("{b, select, other {}}{a, select, other {}}{a, plural, other {}}{b, plural, other {}}",
                                "a")):
            with self.assertRaises(BadMessage) as caught:
                of(notation)
            self.assertEqual(caught.exception.name, name)

    def test_all_is_tuples(self):
        def check(value):
            self.assertNotIsInstance(value, list)
            for inner in value if isinstance(value, tuple) else ():
                check(inner)
        chance = random_with(12)
        for _ in range(50):
            diagram = diagram_of(small_message(chance, 3, True), chance.choice(LANGUAGES))
            check(diagram)
            check(restricted(diagram, "n", 2))


class AgainstTheSlowWayTest(unittest.TestCase):
    def test_diagrams(self):
        chance = random_with(13)
        for _ in range(400):
            language = chance.choice(LANGUAGES)
            message = small_message(chance, chance.randint(1, 3), chance.random() < 0.3)
            before = copy.deepcopy((message, language.rules))
            self.assertEqual(diagram_of(message, language), slow_diagram(message, language))
            self.assertEqual((message, language.rules), before)

    def test_restricted(self):
        chance = random_with(14)
        for _ in range(100):
            diagram = diagram_of(small_message(chance, 2, chance.random() < 0.3), chance.choice(LANGUAGES))
            for name, value in (("n", 0), ("n", 2), ("n", 100), ("p", 7), ("u", "a"), ("u", "word"), ("w", "x"),
                                ("w", ""), ("z", "zz"), ("z", 4), ("q", 1)):
                self.assertEqual(restricted(diagram, name, value), put_in(diagram, name, value))

    def test_many_nodes(self):
        def found(diagram):
            yield diagram
            inner = [case[1] for case in diagram[2]] + [diagram[3]] if diagram[0] == "word" else []
            inner = diagram[2] + diagram[3] if diagram[0] == "number" else inner
            for one in inner:
                yield from found(one)
        chance = random_with(15)
        for _ in range(150):
            diagram = diagram_of(small_message(chance, 3, chance.random() < 0.3), chance.choice(LANGUAGES))
            self.assertEqual(many_nodes(diagram), len(set(found(diagram))))


class RestrictedTest(unittest.TestCase):
    def test_words(self):
        diagram = of("{w, select, x {1} other {{w}!}}{a}")
        self.assertEqual(restricted(diagram, "w", "x"), leaf("1", show("a")))
        self.assertEqual(restricted(diagram, "w", "y"), leaf("y!", show("a")))
        self.assertEqual(restricted(diagram, "w", ""), leaf("!", show("a")))
        self.assertEqual(restricted(diagram, "a", "x"), ("word", "w", (("x", leaf("1x")),), leaf(show("w"), "!x")))
        self.assertEqual(restricted(diagram, "z", "x"), diagram)

    def test_numbers(self):
        diagram = of("{n, plural, offset:1 one {#a} other {{n}b}}{a}")
        self.assertEqual(restricted(diagram, "n", 0), leaf("0b", show("a")))
        self.assertEqual(restricted(diagram, "n", 2), leaf("1a", show("a")))
        self.assertEqual(restricted(diagram, "n", 10 ** 70), leaf("1" + "0" * 70 + "b", show("a")))
        self.assertEqual(restricted(diagram, "a", 12), (
            "number", "n", (leaf("0b12"), leaf("1b12"), leaf("1a12")), (leaf(show("n"), "b12"),)))

    def test_numbers_below_0(self):
        self.assertEqual(restricted(of("{n, plural, offset:9 other {#}}"), "n", 2), leaf("-7"))

    def test_what_gets_short_again(self):
        diagram = of("{n, plural, one {x} other {{a}}}")
        self.assertEqual(restricted(diagram, "a", "x"), leaf("x"))
        self.assertEqual(restricted(of("{w, select, x {b} other {{a}}}"), "a", "b"), leaf("b"))
        self.assertEqual(restricted(of("{w, select, x {b} y {c} other {{a}}}"), "a", "b"),
                         ("word", "w", (("y", leaf("c")),), leaf("b")))
        self.assertEqual(restricted(of("{n, plural, one {x} =3 {y} other {{a}}}"), "a", "y"),
                         ("number", "n", (leaf("y"), leaf("x")), (leaf("y"),)))


class SizeTest(unittest.TestCase):
    def test_many_nodes(self):
        self.assertEqual(many_nodes(of("")), 1)
        self.assertEqual(many_nodes(of("{w, select, x {1} y {2} other {1}}")), 3)
        self.assertEqual(many_nodes(of("{w, select, x {1} y {1} other {2}}")), 3)
        self.assertEqual(many_nodes(of("{n, plural, one {1} other {2}}")), 3)
        self.assertEqual(many_nodes(of("{n, plural, one {#} other {#s}}")), 4)

    def test_many_ways_to_few_diagrams(self):
        letters = "mqbzaycxdwevfugthsirjpkoln"
        message = parse_message("".join([f"{{{letter}, select, y {{x}} other {{}}}}" for letter in letters]))
        diagram = diagram_of(message, EN)
        self.assertEqual(many_nodes(diagram), 27 * 28 // 2)
        self.assertEqual(text_at(diagram, {letter: "y" for letter in letters}), "x" * 26)
        self.assertEqual(many_nodes(restricted(diagram, "m", "y")), 26 * 27 // 2)
        several = parse_message("".join([f"{{{letter}, plural, one {{x}} few {{y}} other {{}}}}" for letter in "abcd"]))
        self.assertEqual(many_nodes(diagram_of(several, RU)), many_nodes(diagram_of(several[::-1], RU)))

    def test_long_messages(self):
        message = parse_message("{w, select, x {b} other {a}}{n, plural, one {1} other {2}}" * 500)
        diagram = diagram_of(message, EN)
        self.assertEqual(text_at(diagram, {"n": 1, "w": "x"}), "b1" * 500)
        self.assertEqual(many_nodes(diagram), 7)

    def test_deep_messages(self):
        message = deep_message(6000, [("show", "a")])
        self.assertEqual(diagram_of(message, EN), (
            "number", "n", (leaf(), ("word", "w", (("x", leaf()),), leaf(show("a")))), (leaf(),)))

    def test_many_names(self):
        names = sorted([first + second for first in "abcdefghijklmnop" for second in "abcdefghijklmnop"])[:250]
        shows = [("show", name) for name in names]
        message = shows
        for name in names[::-1]:
            message = [("select", name, [("x", [("text", name)] + shows)], message)]
        diagram = diagram_of(message, EN)
        self.assertEqual(many_nodes(diagram), 501)
        self.assertEqual(text_at(diagram, {name: "y" for name in names}), "y" * 250)
        self.assertEqual(many_nodes(restricted(diagram, "aa", "y")), 499)


if __name__ == "__main__":
    unittest.main()
