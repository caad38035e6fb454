import copy
import unittest

from messageways.alike import are_alike
from messageways.lacking import needless, reachable
from messageways.languages import Language, parse_language
from messageways.messages import plain, size_of
from messageways.notation import format_message, parse_message
from messageways.shown import shown
from messageways.simple import shorter_messages, simplified, trimmed
from tests.building import deep_message
from tests.small import ENGLISH, RUSSIAN, LANGUAGES, random_with, small_arguments, small_message
from tests.slow_ways import slow_reachable
from tests.test_lacking import few_names

NONE = Language([])
EN = parse_language(ENGLISH)
RU = parse_language(RUSSIAN)
HALVES = parse_language("one: n mod 2 in 0\nfew: n mod 2 in 1")


class TrimmedTest(unittest.TestCase):
    def check(self, notation, expected, language=EN):
        message = parse_message(notation)
        before = copy.deepcopy(message)
        self.assertEqual(format_message(trimmed(message, language)), expected)
        self.assertEqual(message, before)

    def test_nothing_to_leave_out(self):
        for notation in ("", "a{b}", "{n, plural, one {a} other {}}",
                         "{w, select, x {{n, plural, other {#}}} other {b}}"):
            self.check(notation, notation)

    def test_cases_at_each_level(self):
        self.check("{n, plural, few {a} =1 {{n, plural, =1 {b} two {c} other {{w}}}} other {{w, select, x {"
                   "{w, select, y {d} x {e} other {f}}} other {{w, select, x {g} other {{n, plural, =1 {h} other "
                   "{#}}}}}}}}",
                   "{n, plural, =1 {{n, plural, =1 {b} other {}}} other {{w, select, x {"
                   "{w, select, x {e} other {}}} other {{w, select, other {{n, plural, other {#}}}}}}}}")

    def test_the_other_message_made_empty(self):
        self.check("{n, plural, one {a} few {b} other {c{w}}}", "{n, plural, one {a} few {b} other {}}", HALVES)
        self.check("{n, plural, one {a} few {b} other {{w, select, x {c} other {d}}}}",
                   "{n, plural, one {a} few {b} other {}}", HALVES)
        self.check("{w, select, x {{w, select, x {a} other {b}}} other {c}}",
                   "{w, select, x {{w, select, x {a} other {}}} other {c}}")
        self.check("{w, select, x {{w, select, y {a} other {b}}} other {c}}",
                   "{w, select, x {{w, select, other {b}}} other {c}}")

    def test_choices_stay_though_no_case_is_left(self):
        self.check("{n, plural, two {a} other {b}}", "{n, plural, other {b}}")
        self.check("{n, plural, offset:2 few {} other {#}}", "{n, plural, offset:2 other {#}}")

    def test_plain_form(self):
        message = [("text", ""), ("text", "a"), ("text", "b"),
                   ("plural", "n", 0, [("few", []), (1, [("text", ""), ("text", "c"), ("text", "")])], [("text", "")])]
        self.assertEqual(trimmed(message, EN), [("text", "ab"), ("plural", "n", 0, [(1, [("text", "c")])], [])])

    def test_small_messages(self):
        chance = random_with(50)
        for _ in range(150):
            language = chance.choice(LANGUAGES)
            message = few_names(chance, chance.randint(1, 3))
            before = copy.deepcopy(message)
            short = trimmed(message, language)
            self.assertEqual(message, before)
            self.assertEqual(short, plain(short))
            self.assertEqual(trimmed(short, language), short)
            self.assertTrue(are_alike(message, short, language))
            # Just the other messages that cannot come up are left, and they are empty.
            up = slow_reachable(plain(message), language)
            self.assertEqual(reachable(short, language), up)
            for path in needless(short, language):
                self.assertEqual(path[-1][1], "other")
                part = short
                for place, key in path:
                    part = dict(part[place][-2]).get(key, part[place][-1])
                self.assertEqual(part, [])

    def test_deep_messages(self):
        self.assertEqual(size_of(trimmed(deep_message(5000, [("show", "a")]), EN)), 5001)


def slow_shorter(message):
    """The shortenings of a message in plain form, by recursion."""
    found = []
    for place, node in enumerate(message):
        if node[0] in ("select", "plural"):
            for at in range(len(node[-2])):
                cases = node[-2][:at] + node[-2][at + 1:]
                found.append(message[:place] + [node[:-2] + (cases, node[-1])] + message[place + 1:])
            if node[0] == "select" or not own_number(node[-1]):
                found.append(plain(message[:place] + node[-1] + message[place + 1:]))
    for place, node in enumerate(message):
        if node[0] in ("select", "plural"):
            for at, (key, inner) in enumerate(node[-2]):
                for short in slow_shorter(inner):
                    cases = node[-2][:at] + [(key, short)] + node[-2][at + 1:]
                    found.append(message[:place] + [node[:-2] + (cases, node[-1])] + message[place + 1:])
            for short in slow_shorter(node[-1]):
                found.append(message[:place] + [node[:-1] + (short,)] + message[place + 1:])
    return found


def own_number(message):
    return any([node == ("number",) or node[0] == "select"
                and any([own_number(case[1]) for case in node[2]] + [own_number(node[3])])
                for node in message])


class ShorterTest(unittest.TestCase):
    def check(self, notation, *expected):
        message = parse_message(notation)
        before = copy.deepcopy(message)
        self.assertEqual([format_message(short) for short in shorter_messages(message)], list(expected))
        self.assertEqual(message, before)

    def test_messages_without_choices(self):
        self.check("")
        self.check("a{b}")

    def test_cases_and_then_the_other_message(self):
        self.check("{w, select, x {1} y {2} other {3}}", "{w, select, y {2} other {3}}", "{w, select, x {1} other {3}}",
                   "3")
        self.check("{w, select, other {}}", "")
        self.check("{n, plural, offset:1 =2 {1} one {2} other {{w}}}", "{n, plural, offset:1 one {2} other {{w}}}",
                   "{n, plural, offset:1 =2 {1} other {{w}}}", "{w}")

    def test_texts_are_joined(self):
        self.check("a{w, select, other {b}}c", "abc")
        self.check("a{w, select, other {{c}b}}c", "a{c}bc")
        self.check("a{w, select, other {}}c", "ac")
        self.assertEqual(shorter_messages(parse_message("a{w, select, other {b}}c")), [[("text", "abc")]])

    def test_plurals_whose_other_message_has_a_number(self):
        self.check("{n, plural, one {1} other {#}}", "{n, plural, other {#}}")
        self.check("{n, plural, other {#}}")
        self.check("{n, plural, other {{w, select, x {#} other {}}}}",
                   "{n, plural, other {{w, select, other {}}}}", "{n, plural, other {}}")
        # The number of a plural within it is none of its own.
        self.check("{n, plural, other {{p, plural, other {#}}}}", "{p, plural, other {#}}")
        # A number in another case does not count.
        self.check("{n, plural, one {#} other {b}}", "{n, plural, other {b}}", "b")
        self.check("{n, plural, other {{w, select, other {#}}}}", "{n, plural, other {#}}")

    def test_the_order(self):
        self.check(
            "{a, select, x {{c, select, other {1}}} other {2}}"
            "{b, select, y {{d, select, z {3} other {4}}} other {{e, select, other {5}}}}",
            "{a, select, other {2}}{b, select, y {{d, select, z {3} other {4}}} other {{e, select, other {5}}}}",
            "2{b, select, y {{d, select, z {3} other {4}}} other {{e, select, other {5}}}}",
            "{a, select, x {{c, select, other {1}}} other {2}}{b, select, other {{e, select, other {5}}}}",
            "{a, select, x {{c, select, other {1}}} other {2}}{e, select, other {5}}",
            "{a, select, x {1} other {2}}{b, select, y {{d, select, z {3} other {4}}} other {{e, select, other {5}}}}",
            "{a, select, x {{c, select, other {1}}} other {2}}"
            "{b, select, y {{d, select, other {4}}} other {{e, select, other {5}}}}",
            "{a, select, x {{c, select, other {1}}} other {2}}{b, select, y {4} other {{e, select, other {5}}}}",
            "{a, select, x {{c, select, other {1}}} other {2}}{b, select, y {{d, select, z {3} other {4}}} other {5}}")

    def test_outer_messages_first_all_the_way_down(self):
        self.check(
            "{a, select, other {{b, select, x {{c, select, other {1}}} other {}}{d, select, other {2}}}}",
            "{b, select, x {{c, select, other {1}}} other {}}{d, select, other {2}}",
            "{a, select, other {{b, select, other {}}{d, select, other {2}}}}",
            "{a, select, other {{d, select, other {2}}}}",
            "{a, select, other {{b, select, x {{c, select, other {1}}} other {}}2}}",
            "{a, select, other {{b, select, x {1} other {}}{d, select, other {2}}}}")

    def test_small_messages(self):
        chance = random_with(51)
        for _ in range(200):
            message = plain(small_message(chance, chance.randint(1, 3)))
            before = copy.deepcopy(message)
            found = shorter_messages(message)
            self.assertEqual(found, slow_shorter(message))
            self.assertEqual(found, [plain(short) for short in found])
            self.assertEqual(message, before)

    def test_deep_messages(self):
        found = shorter_messages(deep_message(300, [("show", "a")]))
        self.assertEqual(len(found), 600)
        self.assertEqual(size_of(found[-1]), 300)


def slow_simplified(message, language):
    message = trimmed(message, language)
    found = [message]
    while found:
        message = found[0]
        found = [short for short in shorter_messages(message) if are_alike(message, short, language)][:1]
    return message


class SimplifiedTest(unittest.TestCase):
    def check(self, notation, expected, language=EN):
        message = parse_message(notation)
        before = copy.deepcopy((message, language.rules))
        short = simplified(message, language)
        self.assertEqual(format_message(short), expected)
        self.assertEqual((message, language.rules), before)
        self.assertTrue(are_alike(message, short, language))
        self.assertLessEqual(size_of(short), size_of(message))

    def test_cases_that_say_the_same(self):
        self.check("{w, select, x {a} y {a} other {a}}", "a")
        self.check("{w, select, x {a} y {b} z {a} other {a}}", "{w, select, y {b} other {a}}")
        self.check("{w, select, x {x!} other {{w}!}}", "{w}!")
        self.check("{n, plural, =0 {0 a} =1 {1 b} one {# b} other {# a}}", "{n, plural, =1 {1 b} other {# a}}")
        self.check("{n, plural, =0 {0 a} =1 {1 b} one {# b} other {# a}}", "{n, plural, one {# b} other {# a}}", RU)
        self.check("{n, plural, =1 {1} other {#}}", "{n, plural, other {#}}")
        self.check("{n, plural, =1 {1} other {{n}}}", "{n}")

    def test_trimmed_first(self):
        self.check("{n, plural, two {a} other {b}}", "b")
        self.check("{n, plural, =1 {a} one {b} other {c}}", "{n, plural, =1 {a} other {c}}")
        # Else the first shortening would leave out the exact key.
        self.check("{n, plural, =1 {a} one {a} other {c}}", "{n, plural, =1 {a} other {c}}")
        self.check("{n, plural, =1 {a} one {a} other {c}}", "{n, plural, one {a} other {c}}", RU)

    def test_an_exact_key_gives_way_to_its_category(self):
        self.check("{n, plural, offset:1 =2 {1 a} one {# a} =0 {b} other {b}}",
                   "{n, plural, offset:1 =2 {1 a} other {b}}")
        self.check("{n, plural, offset:2 =3 {1 a} =23 {21 b} one {# a} other {c}}",
                   "{n, plural, offset:2 =23 {21 b} one {# a} other {c}}", RU)
        self.check("{n, plural, offset:2 =1 {c} =0 {-2} few {b} other {c}}",
                   "{n, plural, offset:2 =0 {-2} few {b} other {c}}", RU)
        self.check("{n, plural, =1 {a} =21 {c} =31 {a} =4 {b} one {a} other {b}}",
                   "{n, plural, =21 {c} one {a} other {b}}", RU)

    def test_numbers_keep_their_plural(self):
        self.check("{n, plural, offset:1 one {#} other {#}}", "{n, plural, offset:1 other {#}}")
        self.check("{n, plural, one {{p, plural, other {#}}} other {{p, plural, other {#}}}}", "{p, plural, other {#}}")

    def test_where_a_case_comes_up_alone_counts(self):
        self.check("{w, select, x {{w}} other {{w, select, y {y} z {a} other {{w}}}}}",
                   "{w, select, z {a} other {{w}}}")
        self.check("{n, plural, one {{n}} other {{w, select, x {{n, plural, =5 {5} other {#}}} other {}}}}",
                   "{n, plural, one {{n}} other {{w, select, x {{n, plural, other {#}}} other {}}}}")

    def test_a_choice_around_what_got_shorter(self):
        self.check("{v, select, x {a{w, select, y {b} other {b}}} other {ab}}", "ab")
        self.check("{v, select, x {{n, plural, one {a} other {b}}} other {{n, plural, =1 {a} other {b}}}}",
                   "{n, plural, =1 {a} other {b}}")

    def test_choices_without_cases(self):
        self.check("a{w, select, other {b}}c{n, plural, other {{w, select, other {}}}}", "abc")

    def test_many_choices_beside_one_another(self):
        many = "".join([f"{{{name}, select, a {{a}} b {{b}} other {{{{{name}}}}}}}" for name in "abcdefghijklmnop"])
        self.check(many, "".join(["{" + name + "}" for name in "abcdefghijklmnop"]))
        many = "".join([f"{{{name}, select, a {{c}} b {{b}} other {{{{{name}}}}}}}" for name in "abcdefghijklmnop"])
        self.check(many, many.replace(" b {b}", ""))

    def test_many_choices_within_cases(self):
        # So many ways that they cannot be gone through.
        many = "".join([f"{{{name}, plural, =1 {{a}} one {{a}} few {{b}} other {{#}}}}" for name in "abcdefghijklmnop"])
        short = many.replace("=1 {a} ", "")
        for notation, expected in (
                ("{w, select, x {" + many + "} y {!} other {" + many + "!}}",
                 "{w, select, x {" + short + "} y {!} other {" + short + "!}}"),
                ("{w, select, x {" + many + "} y {!} other {" + many + "}}", "{w, select, y {!} other {" + short + "}}")):
            self.assertEqual(format_message(simplified(parse_message(notation), RU)), expected)

    def test_many_cases(self):
        cases = "".join([f"={number} {{{number} files}} " for number in range(300)])
        self.check("{n, plural, " + cases + "other {{n} files}}", "{n} files")
        self.check("{n, plural, " + cases + "one {a} other {# files}}",
                   "{n, plural, =1 {1 files} =21 {21 files} =31 {31 files} "
                   + "".join([f"={n} {{{n} files}} " for n in range(41, 300) if n % 10 == 1 and n % 100 != 11])
                   + "one {a} other {# files}}", RU)

    def test_small_messages(self):
        chance = random_with(52)
        shorter = 0
        for _ in range(120):
            language = chance.choice(LANGUAGES)
            message = small_message(chance, 2)
            before = copy.deepcopy((message, language.rules))
            short = simplified(message, language)
            self.assertEqual((message, language.rules), before)
            self.assertEqual(short, slow_simplified(message, language))
            self.assertLessEqual(size_of(short), size_of(message))
            self.assertFalse(any([are_alike(short, one, language) for one in shorter_messages(short)]))
            for _ in range(5):
                arguments = small_arguments(chance)
                self.assertEqual(shown(short, language, arguments), shown(message, language, arguments))
            shorter += size_of(short) < size_of(trimmed(message, language))
        self.assertGreater(shorter, 40)

    def test_deep_messages(self):
        deep = deep_message(400, [("show", "a")])
        short = simplified(deep, EN)
        # 200 plurals that show nothing but for 1, one select, and what stands in it.
        self.assertEqual(size_of(short), 202)
        self.assertTrue(are_alike(deep, short, EN))


if __name__ == "__main__":
    unittest.main()
