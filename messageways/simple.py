"""Shorter messages that say the same."""

from messageways.counting import CategorySets
from messageways.edits import replaced
from messageways.messages import cases_of, inner_messages, is_choice, joined_texts, other_of, plain
from messageways.shortening import Comparer
from messageways.ways import cases_within, messages_with_paths, path_of


def trimmed_message(case):
    """Return the message of a case without what cannot come up, when those within it are without it."""
    if case.context is None:
        return []
    nodes = list(case.message)
    for place in case.inner:
        cases = case.inner[place]
        left = [(one.step[1], one.message) for one in cases[:-1] if one.context is not None]
        nodes[place] = nodes[place][:-2] + (left, cases[-1].message)
    return nodes


def trimmed(message, language):
    """Return a message in plain form without the cases that cannot come up."""
    cases = cases_within(plain(message), CategorySets(language))
    for case in cases[::-1]:
        case.message = trimmed_message(case)
    return cases[0].message


def has_own_number(message):
    """Tell whether a number stands in a message that is that of the plural around it."""
    ahead = list(message)
    while ahead:
        node = ahead.pop()
        if node[0] == "number":
            return True
        if node[0] == "select":
            ahead.extend([inner for one in inner_messages(node) for inner in one])
    return False


def without_case(node, place):
    """Return a choice without one of its cases."""
    cases = cases_of(node)
    return node[:-2] + (cases[:place] + cases[place + 1:], other_of(node))


def shortened(node):
    """Return the rows of nodes to which a choice can be shortened: without each case, then its other message."""
    rows = [[without_case(node, place)] for place in range(len(cases_of(node)))]
    if node[0] == "plural" and has_own_number(other_of(node)):
        return rows
    return rows + [other_of(node)]


def shorter_at(message, path, place, part, nodes):
    """Return a message in which nodes take the place of one of that part of it that is at a path."""
    return replaced(message, path, joined_texts(part[:place] + nodes + part[place + 1:]))


def shorter_messages(message):
    """Return the shortenings of a message in plain form."""
    message = plain(message)
    found = []
    for path, part in messages_with_paths(message):
        for place, node in enumerate(part):
            if is_choice(node):
                found.extend([shorter_at(message, path, place, part, nodes) for nodes in shortened(node)])
    return found


def alike_nodes(comparer, node, cases):
    """Return the first nodes to which a choice can be shortened without a difference, or None."""
    for place, nodes in enumerate(shortened(node)):
        if place < len(cases) - 1:
            alike = comparer.can_leave_out(node, cases, place)
        else:
            alike = comparer.can_be_other(cases)
        if alike:
            return nodes
    return None


def first_alike(comparer, message):
    """Return the first shortening of a trimmed message that is alike, or None."""
    for case in comparer.cases_of_message(message):
        for place in case.inner:
            nodes = alike_nodes(comparer, case.message[place], case.inner[place])
            if nodes is not None:
                return shorter_at(message, path_of(case), place, case.message, nodes)
    return None


def simplified(message, language):
    """Return a message that shows the same, trimmed and then shortened as far as can be."""
    comparer = Comparer(language)
    shorter = trimmed(message, language)
    while shorter is not None:
        message = shorter
        shorter = first_alike(comparer, message)
    return message
