"""Catalogs: messages by keys, against those of a source, and those that are alike."""

from messageways.alike import joined_kinds
from messageways.choosing import message_mark
from messageways.counting import CategorySets
from messageways.errors import BadMessage
from messageways.joining import Joiner
from messageways.messages import kinds_of


def message_faults(source, message):
    """Return the faults of a message against that of the source."""
    known = kinds_of(source)
    try:
        kinds = kinds_of(message)
    except BadMessage as error:
        return [("bad", error.name)]
    beyond = [("beyond", name) for name in kinds if name not in known]
    without = [("without", name) for name in known if name not in kinds]
    both = [name for name in kinds if name in known]
    unlike = [("unlike", name) for name in both if sorted([kinds[name], known[name]]) == ["number", "text"]]
    return beyond + without + unlike


def faults_at(source, messages, key):
    """Return the faults of what some messages have for a key."""
    if key not in messages:
        return [("lacks", None)]
    if key not in source:
        return [("more", None)]
    return message_faults(source[key], messages[key])


def catalog_faults(source, catalog):
    """Return the faults of a catalog against the source."""
    found = []
    for code in sorted(catalog):
        messages = catalog[code]
        for key in sorted({**source, **messages}):
            found.extend([(code, key, word, name) for word, name in faults_at(source, messages, key)])
    return found


def go_together(one, other):
    """Tell whether no name is asked for as a number and as a word in two messages together."""
    try:
        joined_kinds(one, other)
    except BadMessage:
        return False
    return True


def same_groups(messages, language):
    """Return the groups of at least two keys of messages that are alike, by their first keys."""
    joiner = Joiner()
    category_sets = CategorySets(language)
    # By marks of diagrams: the groups of messages that show the same.
    by_marks = {}
    groups = []
    for key in sorted(messages):
        message = messages[key]
        if not go_together(message, []):
            continue
        known = by_marks.setdefault(message_mark(joiner, message, category_sets), [])
        fitting = [group for group in known if go_together(messages[group[0]], message)]
        if fitting:
            fitting[0].append(key)
        else:
            known.append([key])
            groups.append(known[-1])
    return [group for group in groups if len(group) > 1]
