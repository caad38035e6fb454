"""The cases within a message, and which of them can come up."""

from messageways.contexts import keys_of, known_by
from messageways.messages import inner_messages, is_choice


class Case:
    """A case of a choice, or its other message; or a whole message, which has no case around it."""

    def __init__(self, outer, step, message, context, plural):
        self.outer = outer
        # The place of the choice, and the key.
        self.step = step
        self.message = message
        # What is known of names, or None if the case cannot come up.
        self.context = context
        # The name and the offset of the innermost plural around the message, or None.
        self.plural = plural
        # By the places of the choices in the message: their cases, the other message last.
        self.inner = {}


def cases_at(case, place, category_sets):
    """Return the cases of the choice at a place of the message of a case that can come up."""
    node = case.message[place]
    plural = node[1:3] if node[0] == "plural" else case.plural
    found = []
    for key, message, known in zip(keys_of(node), inner_messages(node), known_by(node, case.context, category_sets)):
        context = None if known is None else {**case.context, node[1]: known}
        found.append(Case(case, (place, key), message, context, plural))
    return found


def cases_within(message, category_sets):
    """Return a message, which is not bad, as a case, and then the cases within it.

    They are in the order of the notation; those within a case that cannot come up are left out.
    """
    found = []
    # The next one is the last one: a list of its own, because messages may be nested deeper than calls.
    ahead = [Case(None, None, message, {}, None)]
    while ahead:
        case = ahead.pop()
        found.append(case)
        if case.context is None:
            continue
        for place, node in enumerate(case.message):
            if is_choice(node):
                case.inner[place] = cases_at(case, place, category_sets)
        ahead.extend([one for cases in case.inner.values() for one in cases][::-1])
    return found


def path_of(case):
    """Return the path of a case."""
    steps = []
    while case.outer is not None:
        steps.append(case.step)
        case = case.outer
    return tuple(steps[::-1])


def messages_with_paths(message):
    """Return the paths of a message and of all those within it, and these: an outer one, then those within it."""
    found = []
    ahead = [((), message)]
    while ahead:
        path, part = ahead.pop()
        found.append((path, part))
        choices = [(place, node) for place, node in enumerate(part) if is_choice(node)]
        inner = [(path + ((place, key),), one) for place, node in choices
                 for key, one in zip(keys_of(node), inner_messages(node))]
        ahead.extend(inner[::-1])
    return found
