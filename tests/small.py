"""Small messages and languages for the tests: few enough choices to go through them one by one."""

import random

from messageways.languages import Language, parse_language

ENGLISH = "one: n in 1"
RUSSIAN = "\n".join([
    "one: n mod 10 in 1 and n mod 100 not in 11",
    "few: n mod 10 in 2..4 and n mod 100 not in 12..14",
    "many: n mod 10 in 0,5..9 or n mod 100 in 11..14",
])
LANGUAGES = [parse_language(text) for text in (
    "",
    ENGLISH,
    "zero: n in 0\none: n mod 3 in 1 and n mod 6 not in 4",
    "one: n mod 2 in 0 or n in 1..3\nfew: n mod 4 in 2..3,0 and n not in 5",
    "two: n in 2..7\nmany: n mod 5 in 0,3..9",
)]

STRINGS = ("", "a", "b", "1", "-1", "x")
WORDS = ("a", "one", "x", "y")
KEYS = (0, 1, 2, 5, 7, "zero", "one", "two", "few", "many")


def small_message(chance, levels, holes=False, inside=False):
    """A message in which n and p stand for numbers, u and w for words, and z for either."""
    return [small_node(chance, levels, holes, inside) for _ in range(chance.randint(0, 3))]


def small_node(chance, levels, holes, inside):
    kinds = ["text", "show"] + ["number"] * inside * 2 + ["hole"] * holes + ["select", "plural"] * 2 * (levels > 0)
    kind = chance.choice(kinds)
    if kind == "text":
        return ("text", chance.choice(STRINGS))
    if kind == "show":
        return ("show", chance.choice("npuwz"))
    if kind == "number":
        return ("number",)
    if kind == "hole":
        return ("hole", chance.choice("ab"))
    inside = inside or kind == "plural"
    keys = chance.sample(KEYS if kind == "plural" else WORDS, chance.randint(0, 4))
    cases = [(key, small_message(chance, levels - 1, holes, inside)) for key in keys]
    other = small_message(chance, levels - 1, holes, inside)
    if kind == "select":
        return ("select", chance.choice("uw"), cases, other)
    return ("plural", chance.choice("np"), chance.choice([0, 0, 1, 2]), cases, other)


def small_arguments(chance):
    """Arguments for all names of small messages, far numbers among them."""
    return {
        "n": chance.choice([chance.randint(0, 15), 10 ** 30 + chance.randint(0, 60)]),
        "p": chance.choice([chance.randint(0, 15), 10 ** 40 + chance.randint(0, 60)]),
        "u": chance.choice(WORDS + ("", "two", "Other words")),
        "w": chance.choice(WORDS + ("", "two", "other")),
        "z": chance.choice([3, "x"]),
    }


def random_language(chance):
    """A language with rules for some of the categories."""
    categories = [name for name in ("zero", "one", "two", "few", "many") if chance.random() < 0.5]
    return Language([(category, random_condition(chance)) for category in categories])


def random_condition(chance):
    return [[random_relation(chance) for _ in range(chance.randint(1, 3))] for _ in range(chance.randint(1, 3))]


def random_relation(chance):
    ranges = []
    for _ in range(chance.choice([1, 1, 2, 8])):
        low = chance.randint(0, 14)
        ranges.append((low, low + chance.choice([0, 0, 1, 5])))
    return (chance.choice([0, 2, 3, 4, 5, 6, 10, 12]), chance.random() < 0.6, ranges)


def random_with(seed):
    return random.Random(seed)
