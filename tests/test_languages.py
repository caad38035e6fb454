import copy
import unittest

from messageways.languages import (
    Language, category_of, condition_holds, format_language, parse_language, relation_holds)
from tests.small import ENGLISH, RUSSIAN, random_language, random_with

FAR = 10 ** 40


class RelationTest(unittest.TestCase):
    def check(self, relation, numbers, among):
        self.assertEqual([number for number in among if relation_holds(relation, number)], list(numbers))

    def test_without_modulus(self):
        self.check((0, True, [(1, 1)]), [1], range(200))
        self.check((0, True, [(2, 4), (7, 7)]), [2, 3, 4, 7], range(200))
        self.check((0, True, [(0, 0)]), [0], range(200))
        self.check((0, False, [(1, 1), (3, 9)]), [0, 2] + list(range(10, 200)), range(200))
        self.check((0, True, [(9998, 9999)]), [9998, 9999], range(20100))

    def test_with_modulus(self):
        self.check((10, True, [(2, 4), (7, 7)]), [2, 3, 4, 7, 12, 13, 14, 17, 22, 23, 24, 27], range(30))
        self.check((2, True, [(1, 1)]), range(1, 50, 2), range(50))
        self.check((2, False, [(1, 1)]), range(0, 50, 2), range(50))
        self.check((100, False, [(1, 99)]), [0, 100, 200], range(250))
        self.check((10, True, [(8, 12)]), [8, 9, 18, 19], range(20))
        self.check((10, True, [(10, 9999)]), [], range(300))
        self.check((10, False, [(10, 9999)]), range(30), range(30))

    def test_ranges_may_overlap_and_come_in_any_order(self):
        self.check((0, True, [(7, 9), (1, 2), (8, 11), (1, 1)]), [1, 2, 7, 8, 9, 10, 11], range(30))

    def test_great_numbers(self):
        self.assertFalse(relation_holds((0, True, [(0, 9999)]), FAR))
        self.assertTrue(relation_holds((0, False, [(0, 9999)]), FAR))
        self.assertTrue(relation_holds((7, True, [(FAR % 7, FAR % 7)]), FAR))
        self.assertFalse(relation_holds((7, True, [(FAR % 7, FAR % 7)]), FAR + 1))
        self.assertTrue(relation_holds((100, True, [(99, 99)]), FAR - 1))

    def test_answers_are_true_and_false(self):
        for relation in ((0, True, [(1, 1)]), (0, False, [(1, 1)]), (3, True, [(1, 1)]), (3, False, [(1, 1)])):
            for number in range(5):
                self.assertIn(relation_holds(relation, number), (True, False))
                self.assertIsInstance(relation_holds(relation, number), bool)
                self.assertIsInstance(condition_holds([[relation]], number), bool)


class ConditionTest(unittest.TestCase):
    def test_all_relations_of_a_row_have_to_hold(self):
        condition = [[(10, True, [(1, 1)]), (100, False, [(11, 11)]), (0, False, [(21, 21)])]]
        self.assertEqual([number for number in range(120) if condition_holds(condition, number)],
                         [1, 31, 41, 51, 61, 71, 81, 91, 101])

    def test_one_of_the_rows_has_to_hold(self):
        condition = [[(0, True, [(3, 4)])], [(0, True, [(4, 5)]), (2, True, [(1, 1)])], [(0, True, [(9, 9)])]]
        self.assertEqual([number for number in range(50) if condition_holds(condition, number)], [3, 4, 5, 9])


class CategoryTest(unittest.TestCase):
    def test_the_first_rule_counts(self):
        language = parse_language("one: n in 1..5\ntwo: n in 4..8\nmany: n mod 2 in 0")
        self.assertEqual([category_of(language, number) for number in range(11)],
                         ["many"] + ["one"] * 5 + ["two"] * 3 + ["other", "many"])
        self.assertEqual(category_of(language, FAR), "many")
        self.assertEqual(category_of(language, FAR + 1), "other")

    def test_russian(self):
        language = parse_language(RUSSIAN)
        told = {"one": (1, 21, 101, 1001), "few": (2, 3, 4, 22, 104, 1003),
                "many": (0, 5, 9, 10, 11, 12, 14, 19, 20, 111, 112, 114, 1011)}
        for category in told:
            for number in told[category]:
                self.assertEqual(category_of(language, number), category)
                self.assertEqual(category_of(language, number + FAR), category)

    def test_no_rules(self):
        for number in (0, 1, 2, FAR):
            self.assertEqual(category_of(Language([]), number), "other")

    def test_numbers_below_0(self):
        for text in ("zero: n not in 7", "one: n mod 2 in 0..1", "few: n mod 10 not in 3\nmany: n mod 10 in 3"):
            for number in (-1, -2, -7, -10, -FAR):
                self.assertEqual(category_of(parse_language(text), number), "other")
            self.assertNotEqual(category_of(parse_language(text), 0), "other")


class LanguageTest(unittest.TestCase):
    def test_its_rules_are_a_new_list(self):
        rules = [("one", [[(0, True, [(1, 1)])]]), ("few", [[(10, False, [(2, 4)])], [(0, True, [(7, 8)])]])]
        before = copy.deepcopy(rules)
        language = Language(rules)
        self.assertEqual(language.rules, before)
        self.assertIsNot(language.rules, rules)
        rules.append(("many", [[(0, True, [(9, 9)])]]))
        rules[0][1][0].append((0, True, [(2, 2)]))
        self.assertEqual(language.rules, before)
        self.assertEqual(Language(()).rules, [])

    def test_nothing_is_changed(self):
        chance = random_with(2)
        for _ in range(50):
            language = random_language(chance)
            before = copy.deepcopy(language.rules)
            for number in (0, 1, 13, FAR):
                category_of(language, number)
                for _, condition in language.rules:
                    condition_holds(condition, number)
            format_language(language)
            self.assertEqual(language.rules, before)


class FormatTest(unittest.TestCase):
    def test_each_kind_of_relation(self):
        for relation, text in (
                ((0, True, [(1, 1)]), "n in 1"),
                ((0, False, [(1, 1)]), "n not in 1"),
                ((0, True, [(0, 9999)]), "n in 0..9999"),
                ((10, True, [(2, 4), (7, 7)]), "n mod 10 in 2..4,7"),
                ((100, False, [(11, 14)]), "n mod 100 not in 11..14"),
                ((2, False, [(7, 7), (0, 0), (3, 4)]), "n mod 2 not in 7,0,3..4")):
            self.assertEqual(format_language(Language([("one", [[relation]])])), "one: " + text)

    def test_rows_conditions_and_rules(self):
        one, two, three = (0, True, [(1, 1)]), (3, False, [(0, 1)]), (0, True, [(7, 9)])
        self.assertEqual(format_language(Language([("one", [[one, two], [three]])])),
                         "one: n in 1 and n mod 3 not in 0..1 or n in 7..9")
        self.assertEqual(format_language(Language([("zero", [[one], [two], [three]]), ("many", [[three, two, one]])])),
                         "zero: n in 1 or n mod 3 not in 0..1 or n in 7..9\n"
                         "many: n in 7..9 and n mod 3 not in 0..1 and n in 1")

    def test_the_empty_language(self):
        self.assertEqual(format_language(Language([])), "")
        self.assertEqual(parse_language("").rules, [])


class ParseTest(unittest.TestCase):
    def test_what_is_read(self):
        self.assertEqual(parse_language(ENGLISH).rules, [("one", [[(0, True, [(1, 1)])]])])
        self.assertEqual(
            parse_language("zero: n in 0\ntwo: n mod 10 in 2..4,7 and n mod 100 not in 11..14 or n not in 5").rules,
            [("zero", [[(0, True, [(0, 0)])]]),
             ("two", [[(10, True, [(2, 4), (7, 7)]), (100, False, [(11, 14)])], [(0, False, [(5, 5)])]])])

    def test_all_categories(self):
        text = "zero: n in 0\none: n in 1\ntwo: n in 2\nfew: n in 3\nmany: n in 4"
        self.assertEqual([rule[0] for rule in parse_language(text).rules], ["zero", "one", "two", "few", "many"])
        self.assertEqual(format_language(parse_language(text)), text)

    def test_the_edges_of_the_limits(self):
        for text in ("one: n mod 2 in 0", "one: n mod 100 in 0", "one: n in 0", "one: n in 9999", "one: n in 0..1",
                     "one: n in 9998..9999", "one: n in 1,2,3,4,5,6,7,8", "one: n in 0..1,2,3,4..9,5,5,5,0..9999",
                     "one: n mod 10 in 10..20"):
            self.assertEqual(format_language(parse_language(text)), text)

    def test_reading_back(self):
        chance = random_with(3)
        for _ in range(300):
            language = random_language(chance)
            text = format_language(language)
            self.assertEqual(parse_language(text).rules, language.rules)
            self.assertEqual(format_language(parse_language(text)), text)


if __name__ == "__main__":
    unittest.main()
