"""Messages: lists of nodes, their plain form, their size and their kinds."""

from messageways.errors import BadMessage

CATEGORIES = ("zero", "one", "two", "few", "many")

# What the nodes with a name ask for under it.
ASKED_KINDS = {"show": "any", "select": "text", "plural": "number"}


def is_choice(node):
    """Tell whether a node is a select or a plural."""
    return node[0] in ("select", "plural")


def cases_of(node):
    """Return the cases of a select or plural, tuples of a key and a message."""
    return list(node[-2])


def other_of(node):
    """Return the other message of a select or plural."""
    return node[-1]


def inner_messages(node):
    """Return the messages of the cases of a node, and then its other message."""
    if not is_choice(node):
        return []
    return [message for _, message in cases_of(node)] + [other_of(node)]


def with_inner(node, messages):
    """Return a choice in which other messages, its other one last, take the place of its own."""
    cases = [(case[0], message) for case, message in zip(cases_of(node), messages)]
    return node[:-2] + (cases, messages[-1])


def all_nodes(message):
    """Return the nodes of a message, all the way down, in the order of the notation."""
    found = []
    # The next node is the last one, so that it can be popped; a list of its own
    # in place of recursion, because messages may be nested deeper than calls.
    ahead = message[::-1]
    while ahead:
        node = ahead.pop()
        found.append(node)
        for inner in inner_messages(node)[::-1]:
            ahead.extend(inner[::-1])
    return found


def text_nodes(strings):
    """Return the nodes of strings one behind the other: one text, or none if they are empty."""
    joined = "".join(strings)
    return [("text", joined)] if joined else []


def joined_texts(message):
    """Return a message with its texts in plain form, but not those within its choices."""
    nodes = []
    strings = []
    for node in message:
        if node[0] == "text":
            strings.append(node[1])
        else:
            nodes.extend(text_nodes(strings))
            strings = []
            nodes.append(node)
    return nodes + text_nodes(strings)


def plain(message):
    """Return the plain form of a message."""
    result = []
    # Each message that is still to be read, with the new list that it goes to.
    ahead = [(message, result)]
    while ahead:
        source, target = ahead.pop()
        for node in joined_texts(source):
            inner = inner_messages(node)
            fresh = [[] for _ in inner]
            target.append(with_inner(node, fresh) if inner else node)
            ahead.extend(list(zip(inner, fresh)))
    return result


def size_of(message):
    """Return the number of nodes, where a text counts as many as its characters."""
    return sum([len(node[1]) if node[0] == "text" else 1 for node in all_nodes(message)])


def kinds_of(message):
    """Return what each name is asked for as: "number", "text" or "any"."""
    kinds = {}
    for node in all_nodes(message):
        if node[0] not in ASKED_KINDS:
            continue
        name = node[1]
        asked = ASKED_KINDS[node[0]]
        known = kinds.get(name, "any")
        if "any" not in (asked, known) and asked != known:
            raise BadMessage(name)
        kinds[name] = known if asked == "any" else asked
    return {name: kinds[name] for name in sorted(kinds)}
