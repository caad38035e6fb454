"""Second ways, slow but plain: what comes up by arguments, and what is left of a message when values are put in."""

from itertools import product

from messageways.languages import category_of
from messageways.messages import kinds_of
from tests.small import WORDS

FAR = 10 ** 30
# For the small languages, keys and offsets: all that differs differs for some of these.
NUMBERS = list(range(13)) + list(range(FAR, FAR + 12))
SOME_WORDS = WORDS + ("", "Other word")


def inner_rows(message):
    """The paths and the messages of all cases of a message, in the order of the notation."""
    found = []
    for place, node in enumerate(message):
        if node[0] in ("select", "plural"):
            for key, inner in list(node[-2]) + [("other", node[-1])]:
                step = (place, key)
                found.append(((step,), inner))
                found.extend([((step,) + path, within) for path, within in inner_rows(inner)])
    return found


def all_paths(message):
    return [path for path, _ in inner_rows(message)]


def slow_key(node, language, value):
    keys = [key for key, _ in node[-2]]
    if value in keys:
        return value
    if node[0] == "plural" and category_of(language, value - node[2]) in keys:
        return category_of(language, value - node[2])
    return "other"


def slow_ways(message, language, arguments):
    """The paths of the cases that come up by arguments."""
    taken = []
    for place, node in enumerate(message):
        if node[0] in ("select", "plural"):
            key = slow_key(node, language, arguments[node[1]])
            taken.append(((place, key),))
            inner = dict(node[-2]).get(key, node[-1])
            taken.extend([((place, key),) + path for path in slow_ways(inner, language, arguments)])
    return taken


def values_for(kind):
    return NUMBERS if kind == "number" else SOME_WORDS if kind == "text" else ("x",)


def all_arguments(message):
    """Enough arguments of a small message to bring up all that can come up."""
    kinds = kinds_of(message)
    rows = product(*[values_for(kind) for kind in kinds.values()])
    return [dict(zip(kinds, row)) for row in rows]


def slow_reachable(message, language):
    taken = {path for arguments in all_arguments(message) for path in slow_ways(message, language, arguments)}
    return [path for path in all_paths(message) if path in taken]


def put_into(message, language, name, value, number=None):
    """A message with a value put in for a name; number is that of the plural around it, if it was put in, too."""
    nodes = []
    for node in message:
        if node == ("show", name):
            nodes.append(("text", str(value)))
        elif node == ("number",) and number is not None:
            nodes.append(("text", str(number)))
        elif node[0] not in ("select", "plural"):
            nodes.append(node)
        elif node[1] == name:
            inner = dict(node[-2]).get(slow_key(node, language, value), node[-1])
            within = value - node[2] if node[0] == "plural" else number
            nodes.extend(put_into(inner, language, name, value, within))
        else:
            # The numbers within another plural are those of that plural.
            within = None if node[0] == "plural" else number
            cases = [(key, put_into(inner, language, name, value, within)) for key, inner in node[-2]]
            nodes.append(node[:-2] + (cases, put_into(node[-1], language, name, value, within)))
    return nodes
