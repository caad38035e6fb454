import unittest

from messageways.diagrams import diagram_of, restricted, text_at
from messageways.errors import BadMessage
from messageways.languages import parse_language
from messageways.messages import kinds_of, plain
from messageways.notation import format_message, parse_message
from messageways.shown import shown
from tests.small import ENGLISH, RUSSIAN, LANGUAGES, WORDS, random_with, small_arguments, small_message

EN = parse_language(ENGLISH)
RU = parse_language(RUSSIAN)
FAR = 10 ** 30

ALIKE = [
    ("{n, plural, other {#}}", "{n}"),
    ("{n, plural, one {# a} other {# b}}", "{n} {n, plural, one {a} other {b}}"),
    ("{n, plural, one {a} other {b}}", "{n, plural, =1 {a} other {b}}"),
    ("{n, plural, offset:1 one {a} other {b}}", "{n, plural, =2 {a} other {b}}"),
    ("{w, select, x {x!} other {{w}!}}", "{w}!"),
    ("{a, select, x {1} other {2}}{b, select, x {3} other {4}}",
     "{b, select, x {{a, select, x {13} other {23}}} other {{a, select, x {14} other {24}}}}"),
    ("{n, plural, =0 {{w}} other {{w, select, x {x} other {{w}}}}}", "{w}"),
    ("{n, plural, offset:2 =1 {-1} other {#}}", "{n, plural, offset:2 other {#}}"),
]

UNLIKE = [
    ("{n}", "{n, plural, offset:1 other {#}}"),
    ("{a}", "{b}"),
    ("{a}{b}", "{b}{a}"),
    ("{n, plural, one {a} other {b}}", "{n, plural, one {a} =999 {c} other {b}}"),
    ("{w, select, x {x} other {y}}", "{w}"),
    ("{n}1", "1{n}"),
    ("{w, select, abcdefgh {a} other {b}}", "b"),
    ("", "{w}"),
]


class TextTest(unittest.TestCase):
    def test_small_messages(self):
        chance = random_with(16)
        for _ in range(300):
            language = chance.choice(LANGUAGES)
            message = small_message(chance, chance.randint(1, 3))
            diagram = diagram_of(message, language)
            for _ in range(6):
                arguments = small_arguments(chance)
                kept = dict(arguments)
                text = shown(message, language, arguments)
                self.assertEqual(text_at(diagram, arguments), text)
                name = chance.choice("npuwz")
                self.assertEqual(text_at(restricted(diagram, name, arguments[name]), arguments), text)
                self.assertEqual(arguments, kept)

    def test_all_numbers_near_and_far(self):
        message = parse_message("{n, plural, offset:2 =7 {seven} one {# a} few {# b {n}} many {# c} other {# d}}"
                                "{p, plural, one {{n}.} few {{p}!} other {#?}}")
        diagram = diagram_of(message, RU)
        for number in list(range(230)) + list(range(FAR, FAR + 110)):
            for other in (0, 1, 3, FAR + 1, FAR + 11):
                arguments = {"n": number, "p": other}
                self.assertEqual(text_at(diagram, arguments), shown(message, RU, arguments))
                turned = {"n": other, "p": number}
                self.assertEqual(text_at(diagram, turned), shown(message, RU, turned))

    def test_more_arguments_than_names(self):
        self.assertEqual(text_at(diagram_of(parse_message("{a}"), EN), {"a": "b", "c": 1}), "b")


class AlikeTest(unittest.TestCase):
    def test_the_same_text_for_all_arguments(self):
        for one, other in ALIKE:
            self.assertEqual(diagram_of(parse_message(one), EN), diagram_of(parse_message(other), EN), (one, other))

    def test_unlike_texts_for_some_arguments(self):
        for one, other in UNLIKE:
            self.assertNotEqual(diagram_of(parse_message(one), EN), diagram_of(parse_message(other), EN), (one, other))

    def test_the_language_counts(self):
        one, other = parse_message("{n, plural, one {a} other {b}}"), parse_message("{n, plural, =1 {a} other {b}}")
        self.assertEqual(diagram_of(one, EN), diagram_of(other, EN))
        self.assertNotEqual(diagram_of(one, RU), diagram_of(other, RU))

    def test_the_plain_form(self):
        chance = random_with(17)
        for _ in range(100):
            language = chance.choice(LANGUAGES)
            message = small_message(chance, 3)
            read = parse_message(format_message(plain(message)))
            self.assertEqual(diagram_of(message, language), diagram_of(read, language))

    def texts(self, message, language):
        """What a message shows for enough arguments to tell small messages apart: far numbers and new words, too."""
        numbers = list(range(13)) + list(range(FAR, FAR + 12))
        words = WORDS + ("q", "longerword")
        return [shown(message, language, {"n": n, "p": p, "u": u, "w": w, "z": "z" * 11})
                for n in numbers for p in (0, 1, FAR) for u in words for w in ("x", "qq")]

    def test_pairs_of_small_messages(self):
        chance = random_with(18)
        same = 0
        for _ in range(150):
            language = chance.choice(LANGUAGES)
            known = {}
            for _ in range(4):
                # Few names and few texts, so that some of them are alike.
                message = [node for node in small_message(chance, 2) if "p" not in str(node[1:2])][:1]
                if "p" in kinds_of(message) or "w" in kinds_of(message):
                    continue
                diagram = diagram_of(message, language)
                texts = tuple(self.texts(message, language))
                same += texts in known
                self.assertEqual(known.setdefault(texts, diagram), diagram)
                known_texts = [row for row, other in known.items() if other == diagram]
                self.assertEqual(known_texts, [texts])
        self.assertGreater(same, 20)

    def test_bad_messages(self):
        with self.assertRaises(BadMessage):
            diagram_of(parse_message("{a, select, other {}}{a, plural, other {}}"), EN)


if __name__ == "__main__":
    unittest.main()
