"""What is known of the values of names where a case of a choice comes up.

Of a name is known ("is", value) if it has just this value, ("in", head, cycle) if it is one of the
at least two numbers of a set, and ("not", words) if it is any word but these.
"""

from messageways.languages import category_of
from messageways.messages import cases_of
from messageways.sets import common, contains, difference, settled

# What is known of the name of a choice at first, by the kind of the choice.
NOTHING_KNOWN = {"plural": ("in", (), (True,)), "select": ("not", ())}


def keys_of(node):
    """Return the keys of a choice, "other" last."""
    return [key for key, _ in cases_of(node)] + ["other"]


def key_for(node, language, value):
    """Return the key of the case that a choice chooses for a value, or "other"."""
    keys = keys_of(node)
    if value in keys:
        return value
    category = category_of(language, value - node[2]) if node[0] == "plural" else "other"
    return category if category in keys else "other"


def number_known(one):
    """Return what is known of a number in a set, or None if no number is in it."""
    head, cycle = one
    if cycle != (False,) or head.count(True) > 1:
        return ("in", head, cycle)
    return ("is", head.index(True)) if head else None


def set_of_numbers(numbers):
    """Return the set of some numbers."""
    head = [False] * max([0] + [number + 1 for number in numbers])
    for number in numbers:
        head[number] = True
    return settled(head, [False])


def known_by_plural(node, one, category_sets):
    """Return what is known in the messages of a plural, when the number is one of a set."""
    exact = [key for key, _ in cases_of(node) if isinstance(key, int)]
    sets = category_sets.sets_for(node)
    rest = difference(one, set_of_numbers(exact))
    left = rest
    known = []
    for key, _ in cases_of(node):
        if key in sets:
            known.append(number_known(common(rest, sets[key])))
            left = difference(left, sets[key])
        else:
            known.append(("is", key) if contains(one, key) else None)
    return known + [number_known(left)]


def known_by_select(node, words):
    """Return what is known in the messages of a select, when the word is none of some words."""
    own = [word for word, _ in cases_of(node)]
    known = [None if word in words else ("is", word) for word in own]
    return known + [("not", words + tuple([word for word in own if word not in words]))]


def known_by(node, context, category_sets):
    """Return what is known of the name of a choice in each of its messages; None where it cannot come up."""
    known = context.get(node[1], NOTHING_KNOWN[node[0]])
    if known[0] == "is":
        chosen = key_for(node, category_sets.language, known[1])
        return [known if key == chosen else None for key in keys_of(node)]
    if known[0] == "in":
        return known_by_plural(node, known[1:], category_sets)
    return known_by_select(node, known[1])
