import copy
import unittest
from itertools import count, islice, product

from messageways.alike import are_alike, joined_kinds, telling_arguments, word_at
from messageways.errors import BadMessage
from messageways.languages import Language, parse_language
from messageways.notation import parse_message
from messageways.shown import shown
from tests.building import deep_message
from tests.small import ENGLISH, RUSSIAN, LANGUAGES, random_with, small_message
from tests.slow_diagrams import slow_diagram
from tests.slow_ways import put_into

NONE = Language([])
EN = parse_language(ENGLISH)
RU = parse_language(RUSSIAN)
FAR = parse_language("many: n in 9998")

ALIKE = [
    # Cut otherwise.
    ("{n} {n, plural, one {file} other {files}}", "{n, plural, one {# file} other {# files}}"),
    ("a{w, select, x {bc} other {bd}}e", "ab{w, select, x {ce} other {de}}"),
    ("{n, plural, =1 {one} other {#}} of {p}", "{n, plural, =1 {one of {p}} other {{n} of {p}}}"),
    # Cases in another order.
    ("{w, select, a {1} b {2} other {3}}", "{w, select, b {2} a {1} other {3}}"),
    ("{n, plural, =0 {z} one {1} =7 {7} other {o}}", "{n, plural, =7 {7} one {1} =0 {z} other {o}}"),
    ("{a, select, x {1} other {2}}{b, select, x {3} other {4}}",
     "{b, select, x {{a, select, x {13} other {23}}} other {{a, select, x {14} other {24}}}}"),
    # Needless choices around them.
    ("{w}", "{n, plural, one {{w}} =5 {{w}} other {{w}}}"),
    ("x{w}", "{w, select, a {xa} abcdefgh {xabcdefgh} other {x{w}}}"),
    ("{n, plural, one {a} other {b}}", "{n, plural, one {{n, plural, one {a} other {c}}} other {b}}"),
    # Offsets, and exact keys beside categories.
    ("{n, plural, offset:1 one {a} other {b}}", "{n, plural, =2 {a} other {b}}"),
    ("{n, plural, offset:1 =1 {#} one {a #} other {#}}",
     "{n, plural, =0 {-1} =1 {0} =2 {a 1} other {{n, plural, offset:1 other {#}}}}"),
    ("{n, plural, =1 {a} one {b} other {c}}", "{n, plural, =1 {a} other {c}}"),
    # Names by which one of them does not choose, or that it does not have.
    ("{w, select, x {x!} other {{w}!}}", "{w}!"),
    ("", "{n, plural, one {} other {}}{w, select, x {} other {}}"),
    ("{n, plural, other {#}}", "{n}"),
]

# With the telling arguments.
UNLIKE = [
    ("", "{w}", {"w": "a"}),
    ("{a}{b}", "{b}{a}", {"a": "a", "b": "b"}),
    # A show alone: no word but a tells the same.
    ("a", "{w}", {"w": "b"}),
    ("a{w}", "{w}a", {"w": "b"}),
    ("{n, plural, other {#}}", "{n, plural, offset:1 other {#}}", {"n": 0}),
    # The words of the selects do not tell, a word that none of them has does.
    ("{w, select, x {1} b {2} other {3}}", "{w, select, x {1} b {2} other {4}}", {"w": "a"}),
    ("{w, select, a {a} b {b} other {c}}", "{w}", {"w": "d"}),
    ("{w, select, x {1} b {2} other {3}}", "{w, select, x {7} b {8} other {3}}", {"w": "b"}),
    ("{w, select, zz {1} other {2}}", "{w, select, aa {1} other {2}}", {"w": "aa"}),
    ("{w, select, zz {1} other {{w}}}", "{w, select, b {b} other {2}}", {"w": "zz"}),
    # The words of the selects that cannot come up, and of those of the other message, count, too.
    ("{w, select, x {{w, select, k {1} other {2}}} other {3}}", "{w, select, x {2} other {4}}", {"w": "k"}),
    # A number below the offset tells.
    ("{n, plural, offset:3 one {a} other {#}}", "{n, plural, offset:3 one {a} =0 {3} other {#}}", {"n": 0}),
    ("{n, plural, offset:3 =0 {} one {a} other {#}}", "{n, plural, offset:3 =0 {} one {a} =2 {1} other {#}}", {"n": 2}),
    # Only the second name tells: the first one has its first value.
    ("{a, select, x {1} other {2}}{b}", "{a, select, x {1} other {2}}b{b}", {"a": "x", "b": "a"}),
    ("{a}{n, plural, =3 {x} other {y}}", "{a}{n, plural, other {y}}", {"a": "a", "n": 3}),
    # Names ascend, whatever comes first.
    ("{b}{n, plural, =3 {{a}} other {}}", "{b}{n, plural, =3 {{b}} other {}}", {"a": "a", "b": "b", "n": 3}),
    ("{a, select, x {{b, select, y {1} other {2}}} other {3}}", "{a, select, x {2} other {3}}", {"a": "x", "b": "y"}),
    ("{n, plural, =4 {{m, plural, =2 {1} other {2}}} other {}}", "{n, plural, =4 {2} other {}}", {"m": 2, "n": 4}),
    ("{n, plural, other {#1}}", "1{n}", {"n": 0}),
    ("{n, plural, =0 {01} other {#1}}", "{n, plural, =0 {01} other {1#}}", {"n": 2}),
    ("1", "{n, plural, one {#} other {1}}{n, plural, =6 {!} other {}}", {"n": 6}),
]


def parsed(*notations):
    return [parse_message(notation) for notation in notations]


class KindsTest(unittest.TestCase):
    def test_kinds_of_both(self):
        one, other = parsed("{n}{w}{c}", "{n, plural, other {{a}}}{w, select, other {}}{b}")
        kinds = {"a": "any", "b": "any", "c": "any", "n": "number", "w": "text"}
        self.assertEqual(joined_kinds(one, other), kinds)
        self.assertEqual(list(joined_kinds(one, other)), sorted(kinds))
        self.assertEqual(joined_kinds(other, one), kinds)
        self.assertEqual(joined_kinds([], []), {})

    def check_bad(self, one, other, name):
        one, other = parsed(one, other)
        before = copy.deepcopy((one, other))
        for call in (joined_kinds, lambda a, b: are_alike(a, b, EN), lambda a, b: telling_arguments(a, b, EN)):
            with self.assertRaises(BadMessage) as caught:
                call(one, other)
            self.assertEqual(caught.exception.name, name)
        self.assertEqual((one, other), before)

    def test_bad_messages(self):
        bad = "{b, select, other {{a, select, other {}}}}{a, plural, other {}}{b, plural, other {}}"
        self.check_bad(bad, "", "a")
        self.check_bad("", bad, "a")
        self.check_bad("{b, plural, other {}}", bad, "b")
        self.check_bad(bad, "{b, plural, other {}}", "a")

    def test_messages_that_do_not_go_together(self):
        self.check_bad("{a, select, other {}}{b, plural, other {}}", "{b, select, other {}}{a, plural, other {}}", "b")
        self.check_bad("{b, plural, other {}}{a, select, other {}}", "{c}{b}{a, plural, other {{b, select, other {}}}}",
                       "a")
        self.check_bad("{n, plural, other {x}}", "{n, select, other {x}}", "n")


class AlikeTest(unittest.TestCase):
    def check(self, one, other, language, alike):
        one, other = parsed(one, other)
        for first, second in ((one, other), (other, one)):
            self.assertIs(are_alike(first, second, language), alike)
            self.assertEqual(telling_arguments(first, second, language) is None, alike)

    def test_alike(self):
        for one, other in ALIKE:
            with self.subTest(one=one, other=other):
                self.check(one, other, EN, True)
                self.check(one, one, EN, True)

    def test_unlike(self):
        for one, other, _ in UNLIKE:
            with self.subTest(one=one, other=other):
                self.check(one, other, EN, False)

    def test_the_language_counts(self):
        self.check("{n, plural, one {a} other {b}}", "{n, plural, =1 {a} other {b}}", EN, True)
        self.check("{n, plural, one {a} other {b}}", "{n, plural, =1 {a} other {b}}", RU, False)
        self.check("{n, plural, one {a} other {b}}", "b", NONE, True)
        self.check("{n, plural, few {a} other {b}}", "b", EN, True)

    def test_one_far_number(self):
        self.check("{n, plural, many {a} other {b}}", "b", FAR, False)
        self.check("{n, plural, offset:9 many {#} other {x}}", "{n, plural, offset:9 many {9998} other {x}}", FAR, True)
        one, other = parsed("{n, plural, offset:9 many {a} other {b}}", "b")
        self.assertEqual(telling_arguments(one, other, FAR), {"n": 10007})

    def test_many_choices_that_both_have(self):
        many = "".join([f"{{{name}, select, a {{{name}}} b {{b}} other {{c}}}}" for name in "abcdefghijklmopqrstu"])
        self.check(many + "x" + many, many + "x" + many, EN, True)
        self.check(many + "{n}" + many, many + "{n, plural, =4 {4} other {#}}" + many, EN, True)
        self.check(many + "{n}" + many, many + "{n, plural, =4 {} other {#}}" + many, EN, False)

    def test_many_choices_in_another_order(self):
        # So many ways that they cannot be gone through, but few texts.
        letters = "mqbzaycxdwevfugthsirjpkoln"
        one = parse_message("".join([f"{{{letter}, select, y {{x}} other {{}}}}" for letter in letters]))
        self.assertTrue(are_alike(one, one[::-1], EN))
        self.assertIsNone(telling_arguments(one, one[::-1], EN))
        other = one[:0:-1] + parse_message("{m, select, y {x} z {x} other {}}")
        self.assertFalse(are_alike(one, other, EN))
        self.assertEqual(telling_arguments(one, other, EN), {**{letter: "y" for letter in letters}, "m": "z"})

    def test_many_choices_that_differ(self):
        many = "".join([f"{{{name}, plural, one {{# a}} few {{# b}} other {{c}}}} " for name in "abcdefghijklmnop"])
        one, other = parsed(many + "{q}" + many, "{q}" + many + "x" + many)
        self.assertFalse(are_alike(one, other, RU))
        self.assertEqual(telling_arguments(one, other, RU), {**{name: 0 for name in "abcdefghijklmnop"}, "q": "a"})

    def test_deep_messages(self):
        deep = deep_message(5000, [("show", "a")])
        self.assertTrue(are_alike(deep, deep_message(5002, [("show", "a")]), EN))
        self.assertFalse(are_alike(deep, deep_message(5000, [("show", "b")]), EN))
        self.assertFalse(are_alike(deep, [("show", "a")], EN))

    def test_pairs_against_the_slow_way(self):
        chance = random_with(30)
        alike = 0
        for _ in range(500):
            language = chance.choice(LANGUAGES)
            one, other = small_message(chance, 1), small_message(chance, 1)
            before = copy.deepcopy((one, other, language.rules))
            expected = slow_diagram(one + [("text", "")], language) == slow_diagram(other, language)
            alike += expected
            self.assertEqual(are_alike(one, other, language), expected)
            arguments = telling_arguments(one, other, language)
            self.assertEqual(arguments is None, expected)
            if arguments is not None:
                self.assertNotEqual(shown(one, language, arguments), shown(other, language, arguments))
            self.assertEqual((one, other, language.rules), before)
        self.assertGreater(alike, 20)


def slow_words(messages, name):
    """The words of a name in their order, without end."""
    found = []
    for message in messages:
        for node in message:
            if node[0] in ("select", "plural"):
                found.extend([case[0] for case in node[-2]] if node[:2] == ("select", name) else [])
                found.extend(slow_words([case[1] for case in node[-2]] + [node[-1]], name))
    return found


def values_in_order(one, other, name, kind):
    if kind == "number":
        yield from count()
    words = sorted(set(slow_words([one, other], name)))
    yield from words
    for length in count(1):
        for letters in product("abcdefghijklmnopqrstuvwxyz", repeat=length):
            if "".join(letters) not in words:
                yield "".join(letters)


class TellingTest(unittest.TestCase):
    def test_telling_arguments(self):
        for one, other, arguments in UNLIKE:
            for first, second in (parsed(one, other), parsed(other, one)):
                with self.subTest(one=one, other=other):
                    told = telling_arguments(first, second, EN)
                    self.assertEqual(told, arguments)
                    self.assertEqual(list(told), sorted(told))
                    self.assertNotEqual(shown(first, EN, told), shown(second, EN, told))

    def test_names_of_both_kinds_and_of_none(self):
        one, other = parsed("{z}{n, plural, one {{w, select, b {1} other {2}}} other {3}}",
                            "{z}{n, plural, one {{w, select, c {1} other {2}}} other {3}}{z, select, k {} other {}}")
        self.assertEqual(telling_arguments(one, other, EN), {"n": 1, "w": "b", "z": "k"})

    def test_all_words_of_one_letter(self):
        cases = "".join([f"{letter} {{1}} " for letter in "abcdefghijklmnopqrstuvwxyz"])
        one, other = parsed("{w, select, " + cases + "other {2}}", "1")
        self.assertEqual(telling_arguments(one, other, EN), {"w": "aa"})

    def test_against_the_slow_way(self):
        chance = random_with(31)
        told = 0
        for _ in range(150):
            language = chance.choice(LANGUAGES)
            one, other = small_message(chance, 1), small_message(chance, 1)
            if chance.random() < 0.5:
                other = one + other
            arguments = telling_arguments(one, other, language)
            if arguments is None:
                continue
            kinds = joined_kinds(one, other)
            self.assertEqual(list(arguments), sorted(kinds))
            first, second = one, other
            for name in kinds:
                for value in islice(values_in_order(one, other, name, kinds[name]), 200):
                    put = [put_into(message, language, name, value) for message in (first, second)]
                    if slow_diagram(put[0], language) != slow_diagram(put[1], language):
                        break
                self.assertEqual(arguments[name], value)
                first, second = put
                told += 1
        self.assertGreater(told, 100)


class WordTest(unittest.TestCase):
    def test_words(self):
        for place, word in ((0, "a"), (1, "b"), (25, "z"), (26, "aa"), (27, "ab"), (51, "az"), (52, "ba"),
                            (701, "zz"), (702, "aaa"), (18277, "zzz"), (18278, "aaaa")):
            self.assertEqual(word_at(place), word)

    def test_the_first_words(self):
        words = [word_at(place) for place in range(3000)]
        self.assertEqual(words, sorted(words, key=lambda word: (len(word), word)))
        self.assertEqual(len(set(words)), 3000)
        self.assertTrue(all([word.isalpha() and word.islower() for word in words]))

    def test_far_words(self):
        first = sum([26 ** length for length in range(1, 40)])
        self.assertEqual(word_at(first), "a" * 40)
        self.assertEqual(word_at(first - 1), "z" * 39)
        self.assertEqual(word_at(first + 26 ** 39), "b" + "a" * 39)


if __name__ == "__main__":
    unittest.main()
