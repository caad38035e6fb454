import copy
import unittest

from messageways.lacking import lacks, needless, reachable
from messageways.languages import Language, category_of, parse_language
from messageways.notation import parse_message
from tests.building import deep_message
from tests.small import ENGLISH, RUSSIAN, LANGUAGES, random_with, small_message
from tests.slow_ways import NUMBERS, all_arguments, all_paths, slow_reachable

NONE = Language([])
EN = parse_language(ENGLISH)
RU = parse_language(RUSSIAN)
HALVES = parse_language("one: n mod 2 in 0\nfew: n mod 2 in 1")
BY_100 = parse_language("two: n mod 100 in 2,22\nfew: n mod 10 in 2..4 and n mod 100 not in 12..14\nmany: n mod 100 "
                        "in 3")


def few_names(chance, levels):
    """A small message with so few names that all arguments can be gone through."""
    while True:
        message = small_message(chance, levels)
        if len(all_arguments(message)) <= 2000:
            return message


class ComingUpTest(unittest.TestCase):
    def check(self, notation, lost, language=EN):
        """Check that of all cases some cannot come up, and nothing within them."""
        message = parse_message(notation)
        before = copy.deepcopy((message, language.rules))
        self.assertEqual(needless(message, language), lost)
        rest = [path for path in all_paths(message) if not any([path[:len(one)] == one for one in lost])]
        self.assertEqual(reachable(message, language), rest)
        self.assertEqual((message, language.rules), before)

    def test_paths_in_the_order_of_the_notation(self):
        message = parse_message("a{w, select, x {{n, plural, =1 {} one {} other {}}} other {b{v, select, other {}}}}"
                                "{c}{n, plural, few {} other {}}")
        self.assertEqual(reachable(message, RU), [
            ((1, "x"),), ((1, "x"), (0, 1)), ((1, "x"), (0, "one")), ((1, "x"), (0, "other")),
            ((1, "other"),), ((1, "other"), (1, "other")), ((3, "few"),), ((3, "other"),)])
        self.assertEqual(needless(message, RU), [])
        self.assertEqual(needless(message, EN), [((1, "x"), (0, "one")), ((3, "few"),)])
        self.assertEqual(reachable(message, EN), [
            ((1, "x"),), ((1, "x"), (0, 1)), ((1, "x"), (0, "other")),
            ((1, "other"),), ((1, "other"), (1, "other")), ((3, "other"),)])

    def test_messages_without_choices(self):
        self.check("", [])
        self.check("a{b}", [])

    def test_words_within_words(self):
        self.check("{w, select, x {{w, select, x {1} y {2} other {3}}} other {}}",
                   [((0, "x"), (0, "y")), ((0, "x"), (0, "other"))])
        self.check("{w, select, x {{w, select, y {1} other {2}}} other {}}", [((0, "x"), (0, "y"))])
        self.check("{w, select, x {1} y {2} other {{w, select, y {3} z {4} other {5}}}}", [((0, "other"), (0, "y"))])
        self.check("{w, select, x {{v, select, x {{w, select, x {} other {}}} other {}}} other {}}",
                   [((0, "x"), (0, "x"), (0, "other"))])
        self.check("{w, select, x {} other {{w, select, y {} other {{w, select, x {} y {} z {} other {}}}}}}",
                   [((0, "other"), (0, "other"), (0, "x")), ((0, "other"), (0, "other"), (0, "y"))])

    def test_choices_beside_one_another_know_nothing_of_one_another(self):
        self.check("{w, select, x {1} other {2}}{w, select, x {1} other {2}}{n, plural, one {} other {}}"
                   "{n, plural, one {} other {}}", [])

    def test_numbers_within_numbers(self):
        self.check("{n, plural, one {{n, plural, =0 {} =1 {} =2 {} one {} other {}}} other {}}", [
            ((0, "one"), (0, 0)), ((0, "one"), (0, 2)), ((0, "one"), (0, "one")), ((0, "one"), (0, "other"))])
        self.check("{n, plural, =5 {{n, plural, one {} other {}}} one {{n, plural, =5 {} other {}}} other {{n, "
                   "plural, one {} =1 {} other {}}}}", [
            ((0, 5), (0, "one")), ((0, "one"), (0, 5)), ((0, "other"), (0, "one")), ((0, "other"), (0, 1))])

    def test_exact_keys_within_categories(self):
        self.check("{n, plural, few {{n, plural, =2 {} =3 {} =5 {} =12 {} =22 {} few {} one {} other {}}} other {}}", [
            ((0, "few"), (0, 5)), ((0, "few"), (0, 12)), ((0, "few"), (0, "one")), ((0, "few"), (0, "other"))], RU)

    def test_exact_keys_go_ahead_of_categories(self):
        self.check("{n, plural, one {} =1 {} other {}}", [((0, "one"),)])
        self.check("{n, plural, one {} =1 {} other {}}", [], RU)
        self.check("{n, plural, zero {} =0 {} =1 {} =2 {} other {}}", [((0, "zero"),)],
                   parse_language("zero: n in 0..2"))

    def test_other_offsets(self):
        self.check("{n, plural, offset:1 one {{n, plural, one {} =2 {} other {}}} other {}}",
                   [((0, "one"), (0, "one")), ((0, "one"), (0, "other"))])
        self.check("{n, plural, one {{n, plural, offset:2 one {} other {}}} other {{n, plural, offset:2 one {} =3 {} "
                   "other {}}}}",
                   [((0, "one"), (0, "one")), ((0, "other"), (0, "one"))])
        self.check("{n, plural, =0 {{n, plural, offset:1 zero {} one {} two {} few {} many {} other {}}} other {}}",
                   [((0, 0), (0, name)) for name in ("zero", "one", "two", "few", "many")], HALVES)

    def test_the_other_message(self):
        self.check("{n, plural, one {} few {} other {{w}}}", [((0, "other"),)], HALVES)
        self.check("{n, plural, offset:1 one {} few {} other {{w}}}", [], HALVES)
        self.check("{n, plural, offset:1 one {} few {} =0 {} other {{w}}}", [((0, "other"),)], HALVES)
        self.check("{n, plural, offset:1 one {} few {} other {{n, plural, =0 {} other {}}}}",
                   [((0, "other"), (0, "other"))], HALVES)

    def test_categories_without_a_rule_or_numbers(self):
        self.check("{n, plural, one {} other {}}", [((0, "one"),)], NONE)
        self.check("{n, plural, zero {} two {} other {}}", [((0, "zero"),), ((0, "two"),)],
                   parse_language("zero: n in 3 and n in 4\none: n in 7\ntwo: n in 7"))

    def test_a_case_within_a_needless_one_is_not_told(self):
        self.check("{n, plural, two {{w, select, x {{n, plural, few {} other {}}} other {}}} other {{n, plural, few "
                   "{{v, select, other {}}} other {}}}}",
                   [((0, "two"),), ((0, "other"), (0, "few"))])

    def test_remainders_by_100(self):
        self.check("{n, plural, two {} few {{n, plural, =2 {} =22 {} =32 {} =103 {} many {} other {}}} many {} other "
                   "{}}", [
            ((0, "few"), (0, 2)), ((0, "few"), (0, 22)), ((0, "few"), (0, "many")), ((0, "many"),)], BY_100)
        self.check("{n, plural, offset:7 two {{n, plural, offset:5 few {} two {} other {}}} other {}}",
                   [((0, "two"), (0, "two")), ((0, "two"), (0, "other"))], BY_100)

    def test_far_numbers(self):
        far = parse_language("one: n in 9999\nfew: n mod 97 in 8 and n mod 89 in 9 and n not in 0..9999")
        self.check("{n, plural, offset:9 one {{n, plural, offset:9 one {} few {} other {}}} few {{n, plural, =999 {} "
                   "one {} few {} other {}}} other {}}", [
            ((0, "one"), (0, "few")), ((0, "one"), (0, "other")), ((0, "few"), (0, 999)),
            ((0, "few"), (0, "one")), ((0, "few"), (0, "few"))], far)

    def test_small_messages(self):
        chance = random_with(40)
        lost = 0
        for _ in range(250):
            language = chance.choice(LANGUAGES)
            message = few_names(chance, chance.randint(1, 3))
            before = copy.deepcopy((message, language.rules))
            up = slow_reachable(message, language)
            self.assertEqual(reachable(message, language), up)
            outer = [path for path in all_paths(message) if path not in up and (not path[:-1] or path[:-1] in up)]
            self.assertEqual(needless(message, language), outer)
            self.assertEqual((message, language.rules), before)
            lost += len(outer)
        self.assertGreater(lost, 100)

    def test_deep_messages(self):
        message = deep_message(4000, [("show", "a")])
        self.assertEqual(len(needless(message, EN)), 3998)
        self.assertEqual(len(reachable(message, EN)), 4002)


def slow_lacks(message, language, where=()):
    found = []
    for place, node in enumerate(message):
        if node[0] == "plural":
            keys = [key for key, _ in node[3]]
            chosen = [category_of(language, number - node[2]) for number in NUMBERS
                      if number not in keys and category_of(language, number - node[2]) not in keys]
            left = [category for category, _ in language.rules if category in chosen]
            found.append((where + (place,), left))
        if node[0] in ("select", "plural"):
            for key, inner in list(node[-2]) + [("other", node[-1])]:
                found.extend(slow_lacks(inner, language, where + (place, key)))
    return found


class LacksTest(unittest.TestCase):
    def lacking(self, notation, language=RU):
        message = parse_message(notation)
        before = copy.deepcopy((message, language.rules))
        found = lacks(message, language)
        self.assertEqual((message, language.rules), before)
        return found

    def test_the_order_of_the_rules(self):
        self.assertEqual(self.lacking("{n, plural, other {}}"), [((0,), ["one", "few", "many"])])
        self.assertEqual(self.lacking("{n, plural, many {} one {} other {}}"), [((0,), ["few"])])
        self.assertEqual(self.lacking("{n, plural, many {} few {} one {} other {}}"), [((0,), [])])
        self.assertEqual(self.lacking("{n, plural, zero {} two {} other {}}"), [((0,), ["one", "few", "many"])])
        self.assertEqual(self.lacking("{n, plural, one {} other {}}", NONE), [((0,), [])])

    def test_messages_without_plurals(self):
        self.assertEqual(self.lacking("a{n}{w, select, x {} other {}}"), [])

    def test_all_numbers_are_exact_keys(self):
        self.assertEqual(self.lacking("{n, plural, =1 {} other {}}", EN), [((0,), [])])
        self.assertEqual(self.lacking("{n, plural, =1 {} other {}}"), [((0,), ["one", "few", "many"])])
        some = parse_language("zero: n in 0\none: n in 1..3\ntwo: n in 4 and n in 5")
        self.assertEqual(self.lacking("{n, plural, =1 {} =3 {} other {}}", some), [((0,), ["zero", "one"])])
        self.assertEqual(self.lacking("{n, plural, =1 {} =2 {} =3 {} other {}}", some), [((0,), ["zero"])])

    def test_offsets(self):
        self.assertEqual(self.lacking("{n, plural, offset:1 =1 {} other {}}", EN), [((0,), ["one"])])
        self.assertEqual(self.lacking("{n, plural, offset:1 =2 {} other {}}", EN), [((0,), [])])
        self.assertEqual(self.lacking("{n, plural, offset:9 =9 {} =10 {} other {}}", parse_language("one: n in 0..1")),
                         [((0,), [])])
        self.assertEqual(self.lacking("{n, plural, offset:9 =0 {} =1 {} other {}}", parse_language("one: n in 0..1")),
                         [((0,), ["one"])])

    def test_where_each_plural_stands(self):
        self.assertEqual(self.lacking(
            "a{n, plural, one {{b}{p, plural, one {} other {}}} =5 {{w, select, x {{p, plural, other {}}} other {{c}"
            "{q, plural, few {} other {}}}}} other {{n, plural, many {} other {}}}}"
            "{w, select, other {{r, plural, one {} few {} other {}}}}{n, plural, other {}}"), [
                ((1,), ["few", "many"]), ((1, "one", 1), ["few", "many"]), ((1, 5, 0, "x", 0), ["one", "few", "many"]),
                ((1, 5, 0, "other", 1), ["one", "many"]), ((1, "other", 0), ["one", "few"]),
                ((2, "other", 0), ["many"]),
                ((3,), ["one", "few", "many"])])

    def test_a_plural_within_a_case_that_cannot_come_up(self):
        self.assertEqual(self.lacking("{n, plural, two {{n, plural, one {} other {}}} one {{n, plural, one {} other "
                                      "{}}} few {} other {}}"), [
            ((0,), ["many"]), ((0, "two", 0), ["few", "many"]), ((0, "one", 0), ["few", "many"])])

    def test_small_messages(self):
        chance = random_with(41)
        for _ in range(300):
            language = chance.choice(LANGUAGES)
            message = small_message(chance, chance.randint(1, 3))
            self.assertEqual(lacks(message, language), slow_lacks(message, language))

    def test_deep_messages(self):
        found = lacks(deep_message(2000, []), EN)
        self.assertEqual(len(found), 1000)
        self.assertEqual(len(found[-1][0]), 2 * 1998 + 1)


if __name__ == "__main__":
    unittest.main()
