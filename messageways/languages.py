"""Languages: their plural rules, the category of a number, their texts."""

from messageways.errors import LineError
from messageways.messages import CATEGORIES

FIGURES = "0123456789"
MOST_FIGURES = 4
MOST_RANGES = 8
LEAST_MODULUS = 2
MOST_MODULUS = 100


class Language:
    """The rules by which numbers go to categories."""

    def __init__(self, rules):
        self.rules = [(category, copied(condition)) for category, condition in rules]


def copied(condition):
    """Return a new list of a condition, all the way down."""
    return [[(modulus, inside, list(ranges)) for modulus, inside, ranges in row] for row in condition]


def relation_holds(relation, number):
    """Tell whether a relation holds for a number."""
    modulus, inside, ranges = relation
    looked_at = number % modulus if modulus else number
    return inside == any([low <= looked_at <= high for low, high in ranges])


def condition_holds(condition, number):
    """Tell whether one row of a condition holds for a number."""
    return any([all([relation_holds(relation, number) for relation in row]) for row in condition])


def category_of(language, number):
    """Return the category of a number."""
    if number < 0:
        return "other"
    for category, condition in language.rules:
        if condition_holds(condition, number):
            return category
    return "other"


def format_range(low, high):
    """Return the text of a range."""
    return str(low) if low == high else f"{low}..{high}"


def format_relation(relation):
    """Return the text of a relation."""
    modulus, inside, ranges = relation
    looked_at = f"n mod {modulus}" if modulus else "n"
    word = "in" if inside else "not in"
    return f"{looked_at} {word} " + ",".join([format_range(low, high) for low, high in ranges])


def format_condition(condition):
    """Return the text of a condition."""
    return " or ".join([" and ".join([format_relation(relation) for relation in row]) for row in condition])


def format_language(language):
    """Return the text of a language, a line for each rule."""
    return "\n".join([f"{category}: {format_condition(condition)}" for category, condition in language.rules])


def parse_number(figures, line):
    """Return a number of a line: of a few figures, without needless zeros."""
    # Not isdigit, which also takes figures of other scripts.
    wrong = [figure for figure in figures if figure not in FIGURES]
    if wrong or not 1 <= len(figures) <= MOST_FIGURES:
        raise LineError(line)
    if figures != "0" and figures[0] == "0":
        raise LineError(line)
    return int(figures)


def parse_modulus(figures, line):
    """Return the modulus of a relation of which the text has one."""
    modulus = parse_number(figures, line)
    if not LEAST_MODULUS <= modulus <= MOST_MODULUS:
        raise LineError(line)
    return modulus


def parse_range(text, line):
    """Return a range: of one number, or of two with dots between them."""
    low, dots, high = text.partition("..")
    if not dots:
        return (parse_number(low, line), parse_number(low, line))
    bounds = (parse_number(low, line), parse_number(high, line))
    if bounds[0] >= bounds[1]:
        raise LineError(line)
    return bounds


def parse_ranges(text, line):
    """Return the ranges of a relation."""
    ranges = [parse_range(part, line) for part in text.split(",")]
    if len(ranges) > MOST_RANGES:
        raise LineError(line)
    return ranges


def parse_relation(text, line):
    """Return a relation."""
    match text.split(" "):
        case ["n", "in", ranges]:
            return (0, True, parse_ranges(ranges, line))
        case ["n", "not", "in", ranges]:
            return (0, False, parse_ranges(ranges, line))
        case ["n", "mod", modulus, "in", ranges]:
            return (parse_modulus(modulus, line), True, parse_ranges(ranges, line))
        case ["n", "mod", modulus, "not", "in", ranges]:
            return (parse_modulus(modulus, line), False, parse_ranges(ranges, line))
        case _:
            raise LineError(line)


def parse_condition(text, line):
    """Return a condition."""
    return [[parse_relation(part, line) for part in row.split(" and ")] for row in text.split(" or ")]


def parse_rule(text, line, allowed):
    """Return the rule of a line, of one of the categories that are still allowed."""
    category, _, condition = text.partition(": ")
    if category not in allowed:
        raise LineError(line)
    return (category, parse_condition(condition, line))


def parse_language(text):
    """Return the language of a text."""
    rules = []
    allowed = CATEGORIES
    lines = text.split("\n") if text else []
    for line, row in enumerate(lines, start=1):
        rule = parse_rule(row, line, allowed)
        rules.append(rule)
        allowed = allowed[allowed.index(rule[0]) + 1:]
    return Language(rules)
