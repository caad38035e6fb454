"""Catalogs: messages by keys, against those of a source, and those that are alike."""

from messageways.alike import joined_kinds, row_of
from messageways.counting import CategorySets
from messageways.errors import BadMessage
from messageways.joining import Joiner
from messageways.messages import kinds_of


def message_faults(source, message):
    """Return the faults of a message against that of the source."""
    known = kinds_of(source)
    try:
        kinds = kinds_of(message)
    except BadMessage as error:
        return [("bad", error.name)]
    beyond = [("beyond", name) for name in kinds if name not in known]
    without = [("without", name) for name in known if name not in kinds]
    both = [name for name in kinds if name in known]
    unlike = [("unlike", name) for name in both if sorted([kinds[name], known[name]]) == ["number", "text"]]
    return beyond + without + unlike


def faults_at(source, messages, key):
    """Return the faults of what some messages have for a key."""
    if key not in messages:
        return [("lacks", None)]
    if key not in source:
        return [("more", None)]
    return message_faults(source[key], messages[key])


def catalog_faults(source, catalog):
    """Return the faults of a catalog against the source."""
    found = []
    for code in sorted(catalog):
        messages = catalog[code]
        for key in sorted({**source, **messages}):
            found.extend([(code, key, word, name) for word, name in faults_at(source, messages, key)])
    return found


def go_together(one, other):
    """Tell whether no name is asked for as a number and as a word in two messages together."""
    try:
        joined_kinds(one, other)
    except BadMessage:
        return False
    return True


def fitting_group(joiner, messages, rows, groups, key):
    """Return the first group whose first message goes together with, and is alike with, that of a key, or None."""
    for group in groups:
        if go_together(messages[group[0]], messages[key]):
            if joiner.show_the_same((rows[group[0]], rows[key]), ()):
                return group
    return None


def same_groups(messages, language):
    """Return the groups of at least two keys of messages that are alike, by their first keys."""
    joiner = Joiner()
    category_sets = CategorySets(language)
    rows = {}
    # By what they show of far arguments, as only messages that show the same there can be alike.
    by_parts = {}
    groups = []
    for key in sorted(messages):
        if not go_together(messages[key], []):
            continue
        rows[key] = row_of(joiner, messages[key], category_sets)
        known = by_parts.setdefault(joiner.far_parts(rows[key]), [])
        group = fitting_group(joiner, messages, rows, known, key)
        if group is None:
            known.append([key])
            groups.append(known[-1])
        else:
            group.append(key)
    return [group for group in groups if len(group) > 1]
