import copy
import unittest
from itertools import product

from messageways.languages import Language, category_of, condition_holds, parse_language, relation_holds
from messageways.sets import (
    ALL, NONE, category_sets, common, complement, condition_set, contains, difference, is_empty, is_within, least,
    moved, range_set, relation_set, settled, single, union)
from tests.small import RUSSIAN, random_condition, random_language, random_relation, random_with

T, F = True, False
FAR = 10 ** 30
NUMBERS = list(range(130)) + [FAR + number for number in range(70)]


def is_in(head, cycle, number):
    """Whether a number is in the set of a head and a cycle, in the words of the document."""
    return head[number] if number < len(head) else cycle[(number - len(head)) % len(cycle)]


def all_small_ones(longest):
    """All heads and cycles of at most so many numbers."""
    for head_size in range(longest):
        for cycle_size in range(1, longest):
            for row in product((F, T), repeat=head_size + cycle_size):
                yield row[:head_size], row[head_size:]


def random_set(chance):
    head = [chance.random() < 0.5 for _ in range(chance.choice([0, 0, 1, 2, 5, 9]))]
    cycle = [chance.random() < 0.5 for _ in range(chance.choice([1, 1, 2, 3, 4, 6, 10]))]
    return settled(head, cycle)


class SetsTest(unittest.TestCase):
    def check(self, one, holds, among=NUMBERS):
        """The set is settled, and has just the numbers for which holds(number) is true."""
        self.assertEqual(settled(one[0], one[1]), one)
        self.assertIsInstance(one, tuple)
        self.assertIsInstance(one[0], tuple)
        self.assertIsInstance(one[1], tuple)
        for number in among:
            self.assertIs(contains(one, number), bool(holds(number)), (one, number))


class SettledTest(SetsTest):
    def test_all_small_ones(self):
        known = {}
        for head, cycle in all_small_ones(5):
            one = settled(head, cycle)
            self.assertEqual(settled(*one), one)
            numbers = tuple([is_in(head, cycle, number) for number in range(40)])
            self.assertEqual(numbers, tuple([contains(one, number) for number in range(40)]))
            # Two settled sets with the same numbers are equal, and nothing shorter has these numbers.
            self.assertEqual(known.setdefault(numbers, one), one)
            self.assertLessEqual(len(one[1]), len(cycle))
            self.assertLessEqual(len(one[0]) + len(one[1]), len(head) + len(cycle))

    def test_heads_that_the_cycle_prolongs(self):
        self.assertEqual(settled([F, T, F, T], [F, T]), ((), (F, T)))
        self.assertEqual(settled([T, F, T], [F, T]), ((), (T, F)))
        self.assertEqual(settled([T, T, F, T], [F, T]), ((T,), (T, F)))
        self.assertEqual(settled([F, T, T], [T]), ((F,), (T,)))
        self.assertEqual(settled([F, F], [F]), ((), (F,)))
        self.assertEqual(settled([T, F, F, T], [F, F, T]), ((), (T, F, F)))

    def test_cycles_that_repeat_a_shorter_one(self):
        self.assertEqual(settled([], [T, F, T, F]), ((), (T, F)))
        self.assertEqual(settled([], [T] * 12), ALL)
        self.assertEqual(settled([], [F] * 7), NONE)
        self.assertEqual(settled([], [T, F, F] * 4), ((), (T, F, F)))
        self.assertEqual(settled([], [T, T, F, T, T, T]), ((), (T, T, F, T, T, T)))
        self.assertEqual(settled([], [T, F, T, F, T]), ((), (T, F, T, F, T)))
        self.assertEqual(settled([T], [F, T, F, T]), ((), (T, F)))
        long = [number in (3, 50, 77) for number in range(97)]
        self.assertEqual(settled([], long * 60), ((), tuple(long)))

    def test_empty_heads(self):
        self.assertEqual(settled([], [T]), ((), (T,)))
        self.assertEqual(settled((), (F, T)), ((), (F, T)))

    def test_what_is_passed_in_stays(self):
        head, cycle = [F, T, F], [F, T, F, T]
        settled(head, cycle)
        self.assertEqual((head, cycle), ([F, T, F], [F, T, F, T]))

    def test_long_ones(self):
        head = [number % 3 == 1 for number in range(100000)]
        self.assertEqual(settled(head, [T, F, F]), ((), (F, T, F)))
        self.assertEqual(settled([T] + head, [T, F, F]), ((T,), (F, T, F)))


class OperationsTest(SetsTest):
    def test_all_and_none(self):
        self.assertEqual(ALL, ((), (T,)))
        self.assertEqual(NONE, ((), (F,)))
        self.check(ALL, lambda number: True)
        self.check(NONE, lambda number: False)

    def test_contains(self):
        one = ((T, F, F), (F, T))
        self.assertEqual([number for number in range(12) if contains(one, number)], [0, 4, 6, 8, 10])
        self.assertIs(contains(one, FAR), T)
        self.assertIs(contains(one, FAR + 1), F)

    def test_pairs_of_small_ones(self):
        sets = sorted({settled(head, cycle) for head, cycle in all_small_ones(4)})
        near = range(3 + 6)
        for one, other in product(sets, sets):
            first = [contains(one, number) for number in near]
            second = [contains(other, number) for number in near]
            for function, rule in ((union, lambda a, b: a or b), (common, lambda a, b: a and b),
                                   (difference, lambda a, b: a and not b)):
                found = function(one, other)
                self.assertEqual(settled(*found), found)
                self.assertEqual([contains(found, number) for number in near], list(map(rule, first, second)))
            self.assertIs(is_within(one, other), not [a for a, b in zip(first, second) if a and not b])

    def test_pairs_near_and_far(self):
        chance = random_with(5)
        for _ in range(300):
            one, other = random_set(chance), random_set(chance)
            kept = copy.deepcopy((one, other))
            self.check(union(one, other), lambda number: contains(one, number) or contains(other, number))
            self.check(common(one, other), lambda number: contains(one, number) and contains(other, number))
            self.check(difference(one, other), lambda number: contains(one, number) and not contains(other, number))
            self.check(complement(one), lambda number: not contains(one, number))
            self.assertEqual((one, other), kept)

    def test_with_all_and_none(self):
        chance = random_with(6)
        for _ in range(100):
            one = random_set(chance)
            self.assertEqual(union(one, NONE), one)
            self.assertEqual(union(one, ALL), ALL)
            self.assertEqual(common(one, ALL), one)
            self.assertEqual(common(NONE, one), NONE)
            self.assertEqual(difference(one, one), NONE)
            self.assertEqual(difference(one, NONE), one)
            self.assertEqual(complement(complement(one)), one)
            self.assertEqual(union(complement(one), one), ALL)
            self.assertIs(is_within(NONE, one), True)
            self.assertIs(is_within(one, ALL), True)
            self.assertIs(is_within(one, one), True)
            self.assertIs(is_within(ALL, one), one == ALL)

    def test_is_empty(self):
        self.assertIs(is_empty(NONE), True)
        self.assertIs(is_empty(ALL), False)
        self.assertIs(is_empty(single(99)), False)
        self.assertIs(is_empty(((), (F, F, T))), False)
        self.assertIs(is_empty(common(single(3), single(4))), True)

    def test_least(self):
        self.assertIsNone(least(NONE))
        self.assertEqual(least(ALL), 0)
        self.assertEqual(least(single(17)), 17)
        self.assertEqual(least(((F, F), (F, F, T))), 4)
        self.assertEqual(least(((F, T), (F,))), 1)
        self.assertEqual(least(((), (F, T))), 1)

    def test_single_and_range_set(self):
        self.assertEqual(single(0), ((T,), (F,)))
        self.assertEqual(single(2), ((F, F, T), (F,)))
        self.assertEqual(range_set(1, 3), ((F, T, T, T), (F,)))
        for low in range(6):
            self.check(single(low), lambda number: number == low)
            for high in range(low, 8):
                self.check(range_set(low, high), lambda number: low <= number <= high)
        self.check(range_set(990, 9999), lambda number: 990 <= number <= 9999, [989, 990, 9999, 10000, FAR])

    def test_moved(self):
        self.assertEqual(moved(single(0), 2), single(2))
        self.assertEqual(moved(ALL, 1), ((F,), (T,)))
        self.assertEqual(moved(NONE, 9), NONE)
        self.assertEqual(moved(((), (T, F)), 1), ((), (F, T)))
        chance = random_with(7)
        for _ in range(200):
            one, offset = random_set(chance), chance.randint(0, 9)
            self.check(moved(one, offset), lambda number: number >= offset and contains(one, number - offset))


class LanguageSetsTest(SetsTest):
    def test_relations(self):
        self.assertEqual(relation_set((0, True, [(1, 1)])), single(1))
        self.assertEqual(relation_set((0, False, [(1, 1)])), ((T, F), (T,)))
        self.assertEqual(relation_set((3, True, [(1, 1)])), ((), (F, T, F)))
        self.assertEqual(relation_set((4, False, [(1, 1), (3, 3)])), ((), (T, F)))
        self.assertEqual(relation_set((4, True, [(4, 9999)])), NONE)
        self.assertEqual(relation_set((4, True, [(3, 9999)])), ((), (F, F, F, T)))
        self.assertEqual(relation_set((4, False, [(0, 3)])), NONE)
        chance = random_with(8)
        for _ in range(400):
            relation = random_relation(chance)
            kept = copy.deepcopy(relation)
            self.check(relation_set(relation), lambda number: relation_holds(relation, number))
            self.assertEqual(relation, kept)

    def test_great_ranges(self):
        relation = (0, True, [(9000, 9999), (17, 17), (9500, 9501)])
        numbers = [0, 16, 17, 18, 8999, 9000, 9500, 9501, 9502, 9999, 10000, FAR]
        self.check(relation_set(relation), lambda number: relation_holds(relation, number), numbers)
        relation = (0, False, relation[2])
        self.check(relation_set(relation), lambda number: relation_holds(relation, number), numbers)

    def test_conditions(self):
        chance = random_with(9)
        for _ in range(300):
            condition = random_condition(chance)
            kept = copy.deepcopy(condition)
            self.check(condition_set(condition), lambda number: condition_holds(condition, number))
            self.assertEqual(condition, kept)

    def test_a_row_of_few_numbers(self):
        row = [(97, True, [(3, 3)]), (89, True, [(5, 50)]), (83, True, [(1, 60)]), (79, False, [(4, 4)]),
               (0, True, [(0, 9999)])]
        expected = [number for number in range(10050) if condition_holds([row], number)]
        found = condition_set([row])
        self.assertEqual([number for number in range(10050) if contains(found, number)], expected)
        self.assertEqual(found[1], (F,))

    def test_category_sets(self):
        chance = random_with(10)
        for _ in range(200):
            language = random_language(chance)
            kept = copy.deepcopy(language.rules)
            sets = category_sets(language)
            self.assertEqual(list(sets), [rule[0] for rule in kept] + ["other"])
            for category in sets:
                self.check(sets[category], lambda number: category_of(language, number) == category)
            self.assertEqual(language.rules, kept)

    def test_they_have_no_number_in_common_and_leave_none_out(self):
        chance = random_with(11)
        for _ in range(50):
            sets = list(category_sets(random_language(chance)).values())
            everything = NONE
            for one in sets:
                self.assertEqual(common(everything, one), NONE)
                everything = union(everything, one)
            self.assertEqual(everything, ALL)

    def test_languages(self):
        self.assertEqual(category_sets(Language([])), {"other": ALL})
        sets = category_sets(parse_language(RUSSIAN))
        self.assertEqual(list(sets), ["one", "few", "many", "other"])
        self.assertEqual(sets["other"], NONE)
        self.assertEqual((sets["one"][0], len(sets["one"][1])), ((), 100))
        nothing_left = category_sets(parse_language("one: n mod 2 in 0..1\ntwo: n in 2"))
        self.assertEqual(nothing_left, {"one": ALL, "two": NONE, "other": NONE})


if __name__ == "__main__":
    unittest.main()
