import copy
import unittest

from messageways.alike import are_alike
from messageways.catalogs import catalog_faults, message_faults, same_groups
from messageways.errors import BadMessage
from messageways.languages import Language, parse_language
from messageways.messages import kinds_of
from messageways.notation import parse_message
from tests.building import deep_message
from tests.small import ENGLISH, RUSSIAN, LANGUAGES, random_with, small_message

NONE = Language([])
EN = parse_language(ENGLISH)
RU = parse_language(RUSSIAN)
BAD = "{b, select, other {{a, select, other {}}}}{a, plural, other {}}{b, plural, other {}}"


def catalog_of(notations):
    return {key: parse_message(notation) for key, notation in notations.items()}


class MessageFaultsTest(unittest.TestCase):
    def check(self, source, message, *expected):
        source, message = parse_message(source), parse_message(message)
        before = copy.deepcopy((source, message))
        self.assertEqual(message_faults(source, message), list(expected))
        self.assertEqual((source, message), before)

    def test_no_fault(self):
        self.check("", "")
        self.check("{n, plural, one {# file} other {# files}} of {who}", "{who}: {n, plural, other {#}}")
        # A show asks for either.
        self.check("{n, plural, other {}}{w, select, other {}}", "{n}{w}")
        self.check("{n}{w}", "{n, plural, other {}}{w, select, other {}}")

    def test_beyond(self):
        self.check("{b}", "{c}{b}{a, plural, other {{d, select, other {}}}}", ("beyond", "a"), ("beyond", "c"),
                   ("beyond", "d"))

    def test_without(self):
        self.check("{c}{b}{a, plural, other {{d, select, other {}}}}", "{b}", ("without", "a"), ("without", "c"),
                   ("without", "d"))

    def test_unlike(self):
        self.check("{b, plural, other {}}{a, select, other {}}{c}",
                   "{b, select, other {}}{a, plural, other {}}{c, plural, other {}}",
                   ("unlike", "a"), ("unlike", "b"))

    def test_beyond_then_without_then_unlike(self):
        self.check("{a, plural, other {}}{z, plural, other {}}{c}{b}",
                   "{z, select, other {}}{a, select, other {}}{y}{x}",
                   ("beyond", "x"), ("beyond", "y"), ("without", "b"), ("without", "c"), ("unlike", "a"),
                   ("unlike", "z"))

    def test_bad_alone(self):
        self.check("{c}{a, plural, other {}}", BAD + "{d}", ("bad", "a"))
        self.check("", "{n, plural, other {{n, select, other {}}}}", ("bad", "n"))

    def test_small_messages(self):
        chance = random_with(70)
        for _ in range(200):
            source, message = small_message(chance, 2), small_message(chance, 2)
            if chance.random() < 0.7:
                message = [node[:1] + (chance.choice("nu"),) + node[2:] if node[0] in ("select", "plural") else node
                           for node in message]
            self.assertEqual(message_faults(source, message), self.slow_faults(source, message))

    def slow_faults(self, source, message):
        try:
            kinds, known = kinds_of(message), kinds_of(source)
        except BadMessage as error:
            return [("bad", error.name)]
        faults = [("beyond", name) for name in sorted(set(kinds) - set(known))]
        faults += [("without", name) for name in sorted(set(known) - set(kinds))]
        return faults + [("unlike", name) for name in sorted(set(known) & set(kinds))
                         if {kinds[name], known[name]} == {"number", "text"}]


class CatalogFaultsTest(unittest.TestCase):
    def test_no_fault(self):
        source = catalog_of({"hello": "Hello {who}", "files": "{n, plural, one {# file} other {# files}}"})
        self.assertEqual(catalog_faults(source, {}), [])
        self.assertEqual(catalog_faults(source, {"de": catalog_of({"files": "{n} Dateien", "hello": "Hallo {who}"})}),
                         [])
        self.assertEqual(catalog_faults({}, {"de": {}}), [])

    def test_all_faults_in_order(self):
        source = catalog_of({"zoo": "{z}", "b": "{n, plural, other {}}{w}", "a": "", "m": "{x}", "c": "x"})
        catalog = {
            "ru": catalog_of({"zoo": "{z}", "c": BAD, "a": "{k}{j}", "m": "{x}", "b": "{n, select, other {}}{v}"}),
            "de": catalog_of({"y": BAD, "m": "{x}", "a": "", "B": "", "zoo": ""}),
            "DE": catalog_of({"zoo": "{z}", "m": "{x}", "c": "", "b": "{w}{n}", "a": ""}),
            "at": {},
        }
        before = copy.deepcopy((source, catalog))
        self.assertEqual(catalog_faults(source, catalog), [
            ("at", "a", "lacks", None), ("at", "b", "lacks", None), ("at", "c", "lacks", None),
            ("at", "m", "lacks", None), ("at", "zoo", "lacks", None),
            ("de", "B", "more", None), ("de", "b", "lacks", None), ("de", "c", "lacks", None),
            ("de", "y", "more", None), ("de", "zoo", "without", "z"),
            ("ru", "a", "beyond", "j"), ("ru", "a", "beyond", "k"),
            ("ru", "b", "beyond", "v"), ("ru", "b", "without", "w"), ("ru", "b", "unlike", "n"),
            ("ru", "c", "bad", "a")])
        self.assertEqual((source, catalog), before)


class SameGroupsTest(unittest.TestCase):
    def check(self, notations, groups, language=EN):
        messages = catalog_of(notations)
        before = copy.deepcopy(messages)
        self.assertEqual(same_groups(messages, language), groups)
        self.assertEqual(messages, before)
        self.assertEqual(same_groups(dict(list(messages.items())[::-1]), language), groups)

    def test_groups_of_two_and_more(self):
        self.check({"z": "{w}", "c": "{n, plural, one {a} other {b}}", "a": "b", "b": "{n, plural, =1 {a} other {b}}",
                    "y": "{w, select, x {x} other {{w}}}", "x": "{n, plural, =1 {a} =2 {b} one {c} other {b}}"},
                   [["b", "c", "x"], ["y", "z"]])

    def test_groups_of_one_are_left_out(self):
        self.check({}, [])
        self.check({"a": "a"}, [])
        self.check({"a": "a", "b": "b", "c": "{w}"}, [])

    def test_the_language_counts(self):
        notations = {"a": "{n, plural, one {a} other {b}}", "b": "{n, plural, =1 {a} other {b}}", "c": "b"}
        self.check(notations, [["a", "b"]])
        self.check(notations, [], RU)
        self.check(notations, [["a", "c"]], NONE)

    def test_bad_messages_are_left_out(self):
        bad = "{n, plural, other {{n, select, other {x}}}}"
        self.check({"a": bad, "b": bad, "c": "x", "d": "x", "e": bad}, [["c", "d"]])
        bad = ("{n, plural, =1 {{n, select, x {1} other {2}}} other {{n, select, x {1} other {3}}}}"
               "{n, select, one {} other {x}}")
        self.check({"a": bad, "b": bad, "c": "x", "d": "x", "e": bad}, [["c", "d"]])

    def test_alike_but_not_together(self):
        # The second one goes together with both others, but those do not with one another.
        self.check({"a": "x{n, plural, other {}}", "b": "x", "c": "x{n, select, other {}}"}, [["a", "b"]])
        self.check({"a": "x", "b": "x{n, plural, other {}}", "c": "x{n, select, other {}}"}, [["a", "b", "c"]])
        self.check({"a": "x{n, plural, other {}}", "b": "x{n, select, other {}}", "c": "x",
                    "d": "{n, select, other {x}}",
                    "e": "{n, plural, other {x}}"}, [["a", "c", "e"], ["b", "d"]])
        self.check({"a": "{n, plural, other {#}}", "b": "{n, select, other {{n}}}", "c": "{n}",
                    "d": "{n, select, x {x} other {{n}}}"},
                   [["a", "c"], ["b", "d"]])

    def test_groups_by_their_first_keys(self):
        self.check({"d": "1", "c": "2", "b": "1", "a": "2", "e": "3", "f": "3"}, [["a", "c"], ["b", "d"], ["e", "f"]])

    def test_many_choices(self):
        many = [f"{{{name}, plural, one {{# a}} few {{# b}} other {{c}}}} " for name in "abcdefghijklmnop"]
        self.check({"a": "".join(many), "b": "".join(many[::-1]), "c": "".join(many), "d": "x" + "".join(many),
                    "e": "".join(many[:-1]), "f": "".join(many[:-1]) + "{p, plural, one {{p} a} few {# b} other {c}} "},
                   [["a", "c", "f"]], RU)

    def test_deep_messages(self):
        deep = deep_message(3000, [("show", "a")])
        self.assertEqual(same_groups({"b": deep, "a": deep_message(3002, [("show", "a")])}, EN), [["a", "b"]])

    def test_small_messages(self):
        chance = random_with(71)
        grouped = 0
        for _ in range(40):
            language = chance.choice(LANGUAGES)
            messages = {key: small_message(chance, 1)[:1] for key in chance.sample("abcdefghijklmnopqrst", 12)}
            for key in list(messages)[:4]:
                kind, name = chance.choice([("plural", "u"), ("select", "u"), ("plural", "n")])
                messages[key] = messages[key] + [(kind, name) + (0,) * (kind == "plural") + ([], [])]
            groups = self.slow_groups(messages, language)
            self.assertEqual(same_groups(messages, language), [group for group in groups if len(group) > 1])
            grouped += len(groups) < 12
        self.assertGreater(grouped, 20)

    def slow_groups(self, messages, language):
        groups = []
        for key in sorted(messages):
            try:
                kinds_of(messages[key])
            except BadMessage:
                continue
            for group in groups:
                if self.same(messages[group[0]], messages[key], language):
                    group.append(key)
                    break
            else:
                groups.append([key])
        return groups

    def same(self, one, other, language):
        try:
            return are_alike(one, other, language)
        except BadMessage:
            return False


if __name__ == "__main__":
    unittest.main()
