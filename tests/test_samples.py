import copy
import unittest
from itertools import combinations

from messageways.errors import BadMessage, MissingArgument, WrongArgument
from messageways.lacking import needless, reachable
from messageways.languages import Language, parse_language
from messageways.messages import kinds_of
from messageways.notation import parse_message
from messageways.samples import covers, fewest_samples, sample, samples, ways_taken
from messageways.shown import shown
from tests.building import deep_message
from tests.small import ENGLISH, RUSSIAN, LANGUAGES, WORDS, random_with, small_arguments, small_message
from tests.slow_ways import all_arguments, slow_reachable, slow_ways
from tests.test_alike import values_in_order
from tests.test_lacking import few_names

NONE = Language([])
EN = parse_language(ENGLISH)
RU = parse_language(RUSSIAN)
HALVES = parse_language("one: n mod 2 in 0\nfew: n mod 2 in 1")


class SampleTest(unittest.TestCase):
    def check(self, notation, path, expected, language=EN):
        message = parse_message(notation)
        before = copy.deepcopy((message, language.rules))
        told = sample(message, language, path)
        self.assertEqual(told, expected)
        if told is not None:
            self.assertEqual(list(told), sorted(told))
            self.assertIn(path, ways_taken(message, language, told))
        self.assertEqual((message, language.rules), before)

    def test_numbers(self):
        notation = "{n, plural, offset:2 =2 {} one {} other {}}"
        self.check(notation, ((0, 2),), {"n": 2})
        self.check(notation, ((0, "one"),), {"n": 3})
        self.check(notation, ((0, "other"),), {"n": 0})
        self.check("{n, plural, =0 {} =1 {} =3 {} other {}}", ((0, "other"),), {"n": 2})
        self.check("{n, plural, =0 {} one {} few {} other {}}", ((0, "few"),), {"n": 2}, RU)
        self.check("{n, plural, =2 {} =3 {} =4 {} one {} few {} other {}}", ((0, "few"),), {"n": 22}, RU)
        self.check("{n, plural, one {} few {} many {} other {}}", ((0, "other"),), None, RU)

    def test_far_numbers(self):
        far = parse_language("one: n in 9999\nfew: n mod 97 in 8 and n mod 89 in 9 and n not in 0..9999")
        self.check("{n, plural, offset:9 one {} few {} other {}}", ((0, "one"),), {"n": 10008}, far)
        least = min([number for number in range(10000, 20000) if number % 97 == 8 and number % 89 == 9])
        self.check("{n, plural, offset:9 one {} few {} other {}}", ((0, "few"),), {"n": least + 9}, far)

    def test_words(self):
        notation = "{w, select, x {} b {} other {}}"
        self.check(notation, ((0, "x"),), {"w": "x"})
        self.check(notation, ((0, "b"),), {"w": "b"})
        self.check(notation, ((0, "other"),), {"w": "a"})
        self.check("{w, select, x {} a {} c {} b {} other {}}", ((0, "other"),), {"w": "d"})
        self.check("{w, select, other {}}", ((0, "other"),), {"w": "a"})
        letters = "".join([letter + " {} " for letter in "abcdefghijklmnopqrstuvwxyz"])
        self.check("{w, select, " + letters + "other {}}", ((0, "other"),), {"w": "aa"})

    def test_the_words_of_all_selects_come_first(self):
        notation = ("{w, select, b {} other {}}"
                    "{v, select, x {{w, select, z {{w, select, k {} other {}}} y {} other {}}} other {}}")
        self.check(notation, ((0, "other"),), {"v": "x", "w": "k"})
        self.check(notation, ((1, "x"), (0, "other")), {"v": "x", "w": "b"})
        self.check(notation, ((1, "other"),), {"v": "a", "w": "b"})
        self.check(notation, ((1, "x"), (0, "z"), (0, "k")), None)
        self.check(notation, ((1, "x"), (0, "z"), (0, "other")), {"v": "x", "w": "z"})

    def test_names_of_all_kinds(self):
        notation = ("{q}{n, plural, one {{w, select, x {{m, plural, other {}}} other {}}} other {{z}}}"
                    "{v, select, c {} d {} other {}}")
        self.check(notation, ((1, "one"), (0, "other")), {"m": 0, "n": 1, "q": "a", "v": "c", "w": "a", "z": "a"})
        self.check(notation, ((1, "one"), (0, "x"), (0, "other")),
                   {"m": 0, "n": 1, "q": "a", "v": "c", "w": "x", "z": "a"})
        self.check(notation, ((2, "other"),), {"m": 0, "n": 0, "q": "a", "v": "a", "w": "x", "z": "a"})

    def test_cases_that_cannot_come_up(self):
        self.check("{n, plural, few {{w, select, x {} other {}}} other {}}", ((0, "few"),), None)
        self.check("{n, plural, few {{w, select, x {} other {}}} other {}}", ((0, "few"), (0, "x")), None)
        self.check("{n, plural, one {{n, plural, one {} other {}}} other {}}", ((0, "one"), (0, "other")), None)

    def test_bad_messages(self):
        message = parse_message("{b, plural, one {} other {}}{a, select, x {} other {}}{a, plural, =1 {} other {}}"
                                "{b, select, other {}}")
        for call in (lambda: sample(message, EN, ((0, "one"),)), lambda: samples(message, EN),
                     lambda: fewest_samples(message, EN)):
            with self.assertRaises(BadMessage) as caught:
                call()
            self.assertEqual(caught.exception.name, "a")

    def test_bad_messages_within_one_another(self):
        for notation, path in (("{a, select, x {{a, plural, =1 {} other {}}} other {}}", ((0, "x"), (0, 1))),
                               ("{a, plural, =1 {{a, select, x {} other {}}} other {}}", ((9, "x"),))):
            message = parse_message(notation)
            for call in (lambda: sample(message, EN, path), lambda: samples(message, EN),
                         lambda: fewest_samples(message, EN)):
                with self.assertRaises(BadMessage):
                    call()

    def test_small_messages(self):
        chance = random_with(60)
        for _ in range(80):
            language = chance.choice(LANGUAGES)
            message = few_names(chance, chance.randint(1, 3))
            rows = [(arguments, slow_ways(message, language, arguments)) for arguments in all_arguments(message)]
            kinds = kinds_of(message)
            for path in slow_reachable(message, language):
                told = sample(message, language, path)
                self.assertEqual(list(told), list(kinds))
                for name in kinds:
                    known = {arguments[name] for arguments, ways in rows if path in ways}
                    self.assertEqual(told[name], self.first_of(known, message, name, kinds[name]))
            for path in needless(message, language):
                self.assertIsNone(sample(message, language, path))


    def first_of(self, known, message, name, kind):
        for value in values_in_order(message, [], name, kind):
            # One word stands for all that the small messages do not have.
            stands_for = value if kind == "number" or value in WORDS else "Other word"
            if kind == "any" or stands_for in known:
                return value


class SamplesTest(unittest.TestCase):
    def test_each_once_in_order(self):
        message = parse_message("{n, plural, one {{w, select, x {} other {}}} other {}}{w, select, x {} y {} other {}}")
        before = copy.deepcopy(message)
        self.assertEqual(samples(message, EN), [
            {"n": 1, "w": "x"}, {"n": 1, "w": "y"}, {"n": 0, "w": "x"}, {"n": 0, "w": "y"}, {"n": 0, "w": "a"}])
        self.assertEqual(message, before)

    def test_messages_without_choices(self):
        self.assertEqual(samples(parse_message("a{b}"), EN), [])
        self.assertEqual(fewest_samples(parse_message("a{b}"), EN), [])
        self.assertTrue(covers(parse_message("a{b}"), EN, []))

    def test_cases_that_cannot_come_up_have_none(self):
        self.assertEqual(samples(parse_message("{n, plural, zero {} few {} one {} other {{w, select, other {}}}}"),
                                 HALVES),
                         [{"n": 1, "w": "a"}, {"n": 0, "w": "a"}])

    def test_small_messages(self):
        chance = random_with(61)
        for _ in range(150):
            language = chance.choice(LANGUAGES)
            message = small_message(chance, chance.randint(1, 3))
            before = copy.deepcopy((message, language.rules))
            rows = []
            for path in reachable(message, language):
                told = sample(message, language, path)
                if told not in rows:
                    rows.append(told)
            self.assertEqual(samples(message, language), rows)
            self.assertTrue(covers(message, language, rows))
            self.assertEqual((message, language.rules), before)


class WaysTest(unittest.TestCase):
    def test_ways(self):
        message = parse_message("a{n, plural, offset:1 =1 {{w, select, x {1} other {2}}} one {{w}} other {{w, select, "
                                "y {{n, plural, =7 {3} other {4}}} other {5}}}}{w, select, x {6} other {7}}")
        before = copy.deepcopy(message)
        for arguments, ways in (
                ({"n": 1, "w": "x"}, [((1, 1),), ((1, 1), (0, "x")), ((2, "x"),)]),
                ({"n": 1, "w": "one"}, [((1, 1),), ((1, 1), (0, "other")), ((2, "other"),)]),
                ({"n": 2, "w": "other"}, [((1, "one"),), ((2, "other"),)]),
                ({"n": 7, "w": "y"},
                 [((1, "other"),), ((1, "other"), (0, "y")), ((1, "other"), (0, "y"), (0, 7)), ((2, "other"),)]),
                ({"n": 10 ** 40, "w": ""}, [((1, "other"),), ((1, "other"), (0, "other")), ((2, "other"),)])):
            self.assertEqual(ways_taken(message, EN, arguments), ways)
        self.assertEqual(message, before)
        self.assertEqual(ways_taken(parse_message("a{b}"), EN, {}), [])

    def test_beside_shown(self):
        chance = random_with(62)
        for _ in range(300):
            language = chance.choice(LANGUAGES)
            message = small_message(chance, chance.randint(1, 3))
            arguments = small_arguments(chance)
            kept = dict(arguments)
            ways = ways_taken(message, language, arguments)
            self.assertEqual(ways, slow_ways(message, language, arguments))
            self.assertEqual(shown(message, language, arguments), text_by(message, ways, arguments, None))
            self.assertEqual(arguments, kept)
            up = reachable(message, language)
            self.assertEqual(ways, [path for path in up if path in ways])

    def test_arguments_that_lack_or_are_wrong(self):
        message = parse_message("{n, plural, =1 {{w, select, other {}}} other {}}")
        with self.assertRaises(MissingArgument):
            ways_taken(message, EN, {"n": 1})
        with self.assertRaises(WrongArgument):
            ways_taken(message, EN, {"n": "x", "w": "x"})
        self.assertEqual(ways_taken(message, EN, {"n": 0}), [((0, "other"),)])

    def test_deep_messages(self):
        ways = ways_taken(deep_message(2000, []), EN, {"n": 1, "w": "y"})
        self.assertEqual(len(ways), 2000)
        self.assertEqual(len(ways[-1]), 2000)


def text_by(message, ways, arguments, number):
    """What a message shows if just the cases with some paths come up."""
    text = ""
    for place, node in enumerate(message):
        if node[0] == "text":
            text += node[1]
        elif node[0] == "show":
            text += str(arguments[node[1]])
        elif node[0] == "number":
            text += str(number)
        else:
            key, = [path[0][1] for path in ways if len(path) == 1 and path[0][0] == place]
            within = [path[1:] for path in ways if path[0] == (place, key) and len(path) > 1]
            less = arguments[node[1]] - node[2] if node[0] == "plural" else number
            text += text_by(dict(node[-2]).get(key, node[-1]), within, arguments, less)
    return text


class CoversTest(unittest.TestCase):
    def test_with_and_without_one_of_the_samples(self):
        message = parse_message("{n, plural, one {{w, select, x {} other {}}} other {}}")
        rows = [{"n": 1, "w": "x"}, {"n": 1, "w": "q"}, {"n": 5, "w": "x"}]
        kept = copy.deepcopy(rows)
        self.assertTrue(covers(message, EN, rows))
        self.assertTrue(covers(message, EN, rows[::-1] + rows))
        for place in range(3):
            self.assertFalse(covers(message, EN, rows[:place] + rows[place + 1:]))
        self.assertFalse(covers(message, EN, []))
        self.assertEqual(rows, kept)

    def test_cases_that_cannot_come_up_need_not(self):
        self.assertTrue(covers(parse_message("{n, plural, few {} other {}}"), EN, [{"n": 3}]))
        self.assertFalse(covers(parse_message("{n, plural, few {} other {}}"), RU, [{"n": 3}]))

    def test_small_messages(self):
        chance = random_with(63)
        for _ in range(150):
            language = chance.choice(LANGUAGES)
            message = few_names(chance, chance.randint(1, 2))
            up = slow_reachable(message, language)
            rows = [chance.choice(all_arguments(message)) for _ in range(chance.randint(0, 9))]
            taken = {path for row in rows for path in slow_ways(message, language, row)}
            self.assertEqual(covers(message, language, rows), all([path in taken for path in up]))


class FewestTest(unittest.TestCase):
    def test_samples_that_are_needless(self):
        message = parse_message("{n, plural, one {{w, select, x {} other {}}} other {}}{w, select, x {} y {} other {}}")
        # Those of n alone show nothing that others do not.
        self.assertEqual(fewest_samples(message, EN), [{"n": 1, "w": "x"}, {"n": 1, "w": "y"}, {"n": 0, "w": "a"}])

    def test_only_what_is_needed(self):
        message = parse_message("{n, plural, =0 {} =1 {} other {}}{w, select, x {} other {}}{v, select, y {} other {}}")
        self.assertEqual(samples(message, EN), [
            {"n": 0, "v": "y", "w": "x"}, {"n": 1, "v": "y", "w": "x"}, {"n": 2, "v": "y", "w": "x"},
            {"n": 0, "v": "y", "w": "a"}, {"n": 0, "v": "a", "w": "x"}])
        self.assertEqual(fewest_samples(message, EN), [
            {"n": 1, "v": "y", "w": "x"}, {"n": 2, "v": "y", "w": "x"},
            {"n": 0, "v": "y", "w": "a"}, {"n": 0, "v": "a", "w": "x"}])

    def test_the_first_of_several(self):
        twos = parse_language("one: n in 1..2")
        # Of 1 and 2, each of which is in the first category, one is enough beside 0 and 3.
        first, second = "{n, plural, one {} other {}}", "{n, plural, offset:1 one {} other {}}"
        rest = "{n, plural, =3 {} other {}}{n, plural, =0 {} other {}}"
        for notation, rows, fewest in ((first + second + rest, [1, 0, 2, 3], [1, 0, 3]),
                                       (second + first + rest, [2, 0, 1, 3], [2, 0, 3]),
                                       (rest + second + first, [3, 0, 1, 2], [3, 0, 1]),
                                       (rest + first + second, [3, 0, 1, 2], [3, 0, 1])):
            message = parse_message(notation)
            self.assertEqual(samples(message, twos), [{"n": number} for number in rows])
            self.assertEqual(fewest_samples(message, twos), [{"n": number} for number in fewest])

    def check(self, message, language):
        rows = samples(message, language)
        fewest = fewest_samples(message, language)
        up = {path: 1 << place for place, path in enumerate(reachable(message, language))}
        masks = [sum([up[path] for path in ways_taken(message, language, row)]) for row in rows]

        def all_covering(many):
            for places in combinations(range(len(rows)), many):
                found = 0
                for place in places:
                    found |= masks[place]
                if found == (1 << len(up)) - 1:
                    yield [rows[place] for place in places]
        self.assertEqual(next(all_covering(len(fewest))), fewest)
        if fewest:
            self.assertEqual(list(all_covering(len(fewest) - 1)), [])
        self.assertTrue(covers(message, language, fewest))

    def test_against_all_rows(self):
        chance = random_with(64)
        checked = 0
        while checked < 150:
            language = chance.choice(LANGUAGES)
            message = small_message(chance, chance.randint(1, 2))
            before = copy.deepcopy((message, language.rules))
            if 1 < len(samples(message, language)) <= 12:
                self.check(message, language)
                checked += 1
            self.assertEqual((message, language.rules), before)

    def test_many_plurals_by_one_name(self):
        chance = random_with(65)
        for _ in range(60):
            language = chance.choice(LANGUAGES)
            keys = (0, 1, 2, 3, 4, 5, 6, 7, "zero", "one", "few", "many")
            message = [("plural", "n", chance.choice([0, 1, 2]), [(key, []) for key in chance.sample(keys, 3)], [])
                       for _ in range(chance.randint(2, 5))]
            if len(samples(message, language)) <= 13:
                self.check(message, language)

    def test_many_cases(self):
        cases = "".join([f"={number} {{}} " for number in range(400)])
        message = parse_message("{n, plural, " + cases + "other {}}{w, select, x {} other {}}")
        fewest = fewest_samples(message, EN)
        self.assertEqual(fewest, [{"n": number, "w": "x"} for number in range(1, 401)] + [{"n": 0, "w": "a"}])
        words = "".join([word + " {} " for word in ("b", "aa", "c", "zz")])
        message = parse_message("".join([f"{{{name}, select, {words} other {{}}}}" for name in "abcdefghijklmnopqrst"]))
        self.assertEqual(len(samples(message, EN)), 81)
        fewest = fewest_samples(message, EN)
        self.assertEqual(len(fewest), 80)
        self.assertTrue(covers(message, EN, fewest))


if __name__ == "__main__":
    unittest.main()
