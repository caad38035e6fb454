"""Places in messages, and a book of messages that can be changed there."""

from messageways.contexts import keys_of
from messageways.errors import NoSuchKey, NoSuchPlace
from messageways.messages import inner_messages, is_choice, plain, with_inner


def place_within(message, step, path):
    """Return the choice to which a step of a path leads, and at which place its message is within that."""
    place, key = step
    if not 0 <= place < len(message) or not is_choice(message[place]):
        raise NoSuchPlace(path)
    keys = keys_of(message[place])
    if key not in keys:
        raise NoSuchPlace(path)
    return message[place], keys.index(key)


def messages_along(message, path):
    """Return a message and those within it to which the beginnings of a path lead."""
    found = [message]
    for step in path:
        node, at = place_within(found[-1], step, path)
        found.append(inner_messages(node)[at])
    return found


def message_at(message, path):
    """Return the message at a path."""
    return messages_along(message, path)[-1]


def replaced(message, path, inner):
    """Return a message in which another one takes the place of that at a path."""
    around = messages_along(message, path)[:-1]
    for step, outer in list(zip(path, around))[::-1]:
        node, at = place_within(outer, step, path)
        messages = inner_messages(node)
        messages[at] = inner
        inner = outer[:step[0]] + [with_inner(node, messages)] + outer[step[0] + 1:]
    return inner


class Book:
    """Messages in plain form by keys, and the deeds that were done to them."""

    def __init__(self):
        self.kept = {}
        # For each deed that can be undone: the key, and the message that it had before, or None.
        self.before = []

    def messages(self):
        """Return the messages by their keys."""
        return dict(self.kept)

    def keep(self, key, message):
        """Keep a message under a key, as a deed that can be undone; none if it is None."""
        self.before.append((key, self.kept.get(key)))
        self.set_back(key, message)

    def set_back(self, key, message):
        """Let a key have a message, or none if it is None."""
        if message is None:
            del self.kept[key]
        else:
            self.kept[key] = message

    def kept_at(self, key):
        """Return the message under a key."""
        if key not in self.kept:
            raise NoSuchKey(key)
        return self.kept[key]

    def put(self, key, message):
        """Put a message under a key, and return whether the key was there before."""
        known = key in self.kept
        self.keep(key, plain(message))
        return known

    def drop(self, key):
        """Drop a key, and return its message."""
        message = self.kept_at(key)
        self.keep(key, None)
        return message

    def change(self, key, path, inner):
        """Let another message take the place of that at a path, and return True."""
        self.keep(key, plain(replaced(self.kept_at(key), path, inner)))
        return True

    def undo(self):
        """Undo the last deed that was not undone, and return whether there was one."""
        if not self.before:
            return False
        key, message = self.before.pop()
        self.set_back(key, message)
        return True
