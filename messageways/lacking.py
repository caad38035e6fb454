"""What lacks in a message, and which of its cases are needless."""

from messageways.contexts import keys_of, set_of_numbers
from messageways.counting import CategorySets
from messageways.messages import cases_of, inner_messages, is_choice
from messageways.sets import is_within
from messageways.ways import cases_within, path_of


def needless(message, language):
    """Return the paths of the cases that cannot come up, though all around them can."""
    cases = cases_within(message, CategorySets(language))
    return [path_of(case) for case in cases if case.context is None]


def reachable(message, language):
    """Return the paths of the cases that can come up."""
    cases = cases_within(message, CategorySets(language))
    return [path_of(case) for case in cases[1:] if case.context is not None]


def choices_within(message):
    """Return all choices within a message, in the order of the notation, and where they stand."""
    found = []
    # Messages, with the places and keys of the paths that lead to them, and choices with their
    # own places behind these; the next one is the last one.
    ahead = [((), message)]
    while ahead:
        where, part = ahead.pop()
        if isinstance(part, list):
            choices = [(where + (place,), node) for place, node in enumerate(part) if is_choice(node)]
            ahead.extend(choices[::-1])
        else:
            found.append((where, part))
            inner = [(where + (key,), one) for key, one in zip(keys_of(part), inner_messages(part))]
            ahead.extend(inner[::-1])
    return found


def left_out(node, category_sets):
    """Return the categories that a plural leaves out."""
    exact = set_of_numbers([key for key, _ in cases_of(node) if isinstance(key, int)])
    keys = keys_of(node)
    categories = [category for category, _ in category_sets.language.rules if category not in keys]
    return [one for one in categories if not is_within(category_sets.arguments_of(one, node[2]), exact)]


def lacks(message, language):
    """Return where each plural stands, with the categories of the language that it leaves out."""
    category_sets = CategorySets(language)
    plurals = [(where, node) for where, node in choices_within(message) if node[0] == "plural"]
    return [(where, left_out(node, category_sets)) for where, node in plurals]
