"""Rewrites: two sides with holes, in which any messages may stand."""

from messageways.alike import are_alike, telling_arguments
from messageways.messages import inner_messages, with_inner


def filled(message, fillings):
    """Return a message with messages in the place of its holes, by letters."""
    result = []
    # Each message that is still to be filled, with the new list that it goes to.
    ahead = [(message, result)]
    while ahead:
        source, target = ahead.pop()
        for node in source:
            if node[0] == "hole":
                target.extend(fillings.get(node[1], [node]))
                continue
            inner = inner_messages(node)
            fresh = [[] for _ in inner]
            target.append(with_inner(node, fresh) if inner else node)
            ahead.extend(list(zip(inner, fresh)))
    return result


def holes_of(message):
    """Return the letters of the holes of a message: True for those that somewhere stand outside of all plurals."""
    outside = {}
    # Messages, and whether they stand within a plural.
    ahead = [(message, False)]
    while ahead:
        part, within = ahead.pop()
        for node in part:
            if node[0] == "hole":
                outside[node[1]] = outside.get(node[1], False) or not within
            ahead.extend([(inner, within or node[0] == "plural") for inner in inner_messages(node)])
    return {letter: outside[letter] for letter in sorted(outside)}


def name_ahead(letter):
    """Return the name of what stands in a hole ahead of its number; messages have no such name."""
    return f"{letter} ahead"


def name_behind(letter):
    """Return the name of what stands in a hole behind its number; messages have no such name."""
    return f"{letter} behind"


def stand_ins(outside):
    """Return shows for holes that tell as much as any messages in them.

    They show any text, and if there may be a number, this and any text behind it: so each hole and
    its number can be told from all others, and from the texts around them.
    """
    found = {}
    for letter in outside:
        found[letter] = [("show", name_ahead(letter))]
        if not outside[letter]:
            found[letter].extend([("number",), ("show", name_behind(letter))])
    return found


def is_safe(left, right, language):
    """Tell whether both sides of a rewrite show the same text for all arguments, whatever stands in the holes."""
    shows = stand_ins(holes_of(left + right))
    return are_alike(filled(left, shows), filled(right, shows), language)


def counter_example(left, right, language):
    """Return messages for the holes of a rewrite and arguments that tell its sides apart, or None if it is safe."""
    shows = stand_ins(holes_of(left + right))
    told = telling_arguments(filled(left, shows), filled(right, shows), language)
    if told is None:
        return None
    texts = {}
    for letter in shows:
        texts[letter] = [node if node[0] == "number" else ("text", told[node[1]]) for node in shows[letter]]
    taken = {node[1]: True for letter in shows for node in shows[letter] if node[0] == "show"}
    return texts, {name: told[name] for name in told if name not in taken}
