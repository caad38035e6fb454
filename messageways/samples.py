"""Samples: arguments that together show all that a message can show."""

from messageways.alike import first_word, words_by_name
from messageways.contexts import NOTHING_KNOWN, key_for
from messageways.counting import CategorySets
from messageways.covering import Cover
from messageways.lacking import reachable
from messageways.messages import is_choice, kinds_of, other_of
from messageways.sets import least
from messageways.shown import asked_argument, case_with
from messageways.ways import cases_within, path_of


def coming_up(message, language):
    """Return the cases that can come up."""
    # For its error, ahead of all else.
    kinds_of(message)
    cases = cases_within(message, CategorySets(language))
    return [case for case in cases[1:] if case.context is not None]


def first_value(known, words):
    """Return the first value of a name of which something is known."""
    if known[0] == "is":
        return known[1]
    if known[0] == "in":
        return least(known[1:])
    return first_word(words, lambda word: word not in known[1])


def first_arguments(kinds, words, context):
    """Return the first arguments for names of such kinds, with the words of their selects, in a context."""
    arguments = {}
    for name in kinds:
        at_first = NOTHING_KNOWN["plural" if kinds[name] == "number" else "select"]
        arguments[name] = first_value(context.get(name, at_first), words.get(name, []))
    return arguments


def sample(message, language, path):
    """Return the first arguments of the case at a path, or None if it cannot come up."""
    found = [case for case in coming_up(message, language) if path_of(case) == path]
    if not found:
        return None
    return first_arguments(kinds_of(message), words_by_name(message), found[0].context)


def samples(message, language):
    """Return the first arguments of the cases that can come up, each once."""
    cases = coming_up(message, language)
    kinds = kinds_of(message)
    words = words_by_name(message)
    found = {}
    for case in cases:
        arguments = first_arguments(kinds, words, case.context)
        found[tuple(arguments.values())] = arguments
    return list(found.values())


def choices_ahead(path, message):
    """Return the choices of a message at a path with their places, the first one last."""
    choices = [(path, place, node) for place, node in enumerate(message) if is_choice(node)]
    return choices[::-1]


def ways_taken(message, language, arguments):
    """Return the paths of the cases that come up by arguments."""
    taken = []
    ahead = choices_ahead((), message)
    while ahead:
        path, place, node = ahead.pop()
        key = key_for(node, language, asked_argument(node, arguments))
        path = path + ((place, key),)
        taken.append(path)
        chosen = case_with(node, key)
        ahead.extend(choices_ahead(path, other_of(node) if chosen is None else chosen))
    return taken


def covers(message, language, rows):
    """Tell whether each case that can come up comes up by one of some arguments."""
    taken = {path: True for arguments in rows for path in ways_taken(message, language, arguments)}
    return all([path in taken for path in reachable(message, language)])


def fewest_samples(message, language):
    """Return the fewest samples that cover a message."""
    rows = samples(message, language)
    places = {path: place for place, path in enumerate(reachable(message, language))}
    marked = [sum([1 << places[path] for path in ways_taken(message, language, row)]) for row in rows]
    return [rows[place] for place in Cover(marked).fewest()]
