"""Messages for the tests, and a second way to write their notation."""

import random

NAMES = ("a", "n", "abcdefgh", "select", "plural", "other", "offset")
WORDS = ("x", "one", "offset", "plural", "zzzzzzzz")
KEYS = (0, 1, 9, 10, 99, 100, 999, "zero", "one", "two", "few", "many")
STRINGS = ("", " ", "a", "it's", "''", "'", "{", "}", "#", "{}", "'{'", "##", "\n", " \n ", "~!=,:",
           "offset:1", "=0", "{a, select, other {}}")


def simple_messages(in_plural):
    """Messages of one level: without choices."""
    found = [[]]
    for string in STRINGS:
        found.append([("text", string)] if string else [])
    found.append([("show", "a")])
    found.append([("text", "it's "), ("show", "abcdefgh"), ("text", "{#}"), ("show", "n")])
    if in_plural:
        found.append([("number",)])
        found.append([("number",), ("number",), ("text", "#"), ("number",)])
    return found


def random_message(chance, levels, in_plural=False):
    """A message in plain form, with at most so many levels of choices."""
    nodes = []
    for _ in range(chance.randint(0, 3)):
        node = random_node(chance, levels, in_plural)
        beside = nodes and nodes[-1][0] == "text" and node[0] == "text"
        if not beside and node != ("text", ""):
            nodes.append(node)
    return nodes


def random_node(chance, levels, in_plural):
    kinds = ["text", "show"] + ["number"] * in_plural + ["select", "plural"] * (levels > 0)
    kind = chance.choice(kinds)
    if kind == "text":
        return ("text", chance.choice(STRINGS))
    if kind == "number":
        return ("number",)
    name = chance.choice(NAMES)
    if kind == "show":
        return ("show", name)
    inside = in_plural or kind == "plural"
    keys = chance.sample(KEYS if kind == "plural" else WORDS, chance.randint(0, 4))
    cases = [(key, random_message(chance, levels - 1, inside)) for key in keys]
    other = random_message(chance, levels - 1, inside)
    if kind == "select":
        return ("select", name, cases, other)
    return ("plural", name, chance.choice([0, 0, 1, 9]), cases, other)


def random_messages(many, levels, seed=1):
    chance = random.Random(seed)
    return [random_message(chance, levels) for _ in range(many)]


def spaced(message, gap):
    """The notation of a message, with gap(canonical) wherever spaces may stand within braces."""
    return "".join([spaced_node(node, gap) for node in message])


def spaced_node(node, gap):
    if node[0] == "text":
        string = node[1].replace("'", "''")
        for sign in "{}#":
            string = string.replace(sign, "'" + sign + "'")
        return string
    if node[0] == "number":
        return "#"
    if node[0] == "show":
        return "{" + gap("") + node[1] + gap("") + "}"
    told = "{" + gap("") + node[1] + gap("") + "," + gap(" ") + node[0] + gap("") + "," + gap(" ")
    if node[0] == "plural" and node[2]:
        told += "offset:" + str(node[2]) + gap(" ")
    for key, inner in node[-2]:
        told += str(key) if isinstance(key, str) else "=" + str(key)
        told += gap(" ") + "{" + spaced(inner, gap) + "}" + gap(" ")
    return told + "other" + gap(" ") + "{" + spaced(node[-1], gap) + "}" + gap("") + "}"


def canonical(gap):
    return gap


def deep_message(levels, innermost):
    """Choices within choices, selects and plurals by turns, the outermost a select if levels is odd."""
    message = innermost
    for level in range(levels):
        if level % 2 == 0:
            message = [("select", "w", [("x", [])], message)]
        else:
            message = [("plural", "n", 0, [(1, message)], [])]
    return message
