"""Places in messages."""

from messageways.contexts import keys_of
from messageways.errors import NoSuchPlace
from messageways.messages import inner_messages, is_choice, with_inner


def place_within(message, step, path):
    """Return the choice to which a step of a path leads, and at which place its message is within that."""
    place, key = step
    if not 0 <= place < len(message) or not is_choice(message[place]):
        raise NoSuchPlace(path)
    keys = keys_of(message[place])
    if key not in keys:
        raise NoSuchPlace(path)
    return message[place], keys.index(key)


def messages_along(message, path):
    """Return a message and those within it to which the beginnings of a path lead."""
    found = [message]
    for step in path:
        node, at = place_within(found[-1], step, path)
        found.append(inner_messages(node)[at])
    return found


def message_at(message, path):
    """Return the message at a path."""
    return messages_along(message, path)[-1]


def replaced(message, path, inner):
    """Return a message in which another one takes the place of that at a path."""
    around = messages_along(message, path)[:-1]
    for step, outer in list(zip(path, around))[::-1]:
        node, at = place_within(outer, step, path)
        messages = inner_messages(node)
        messages[at] = inner
        inner = outer[:step[0]] + [with_inner(node, messages)] + outer[step[0] + 1:]
    return inner
