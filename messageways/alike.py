"""Whether two messages show the same text for all arguments, and the first arguments that tell them apart."""

from messageways.choosing import message_mark
from messageways.counting import CategorySets
from messageways.joining import Joiner
from messageways.messages import all_nodes, cases_of, kinds_of
from messageways.notation import LETTERS


def joined_kinds(one, other):
    """Return the kinds of two messages together."""
    return kinds_of(one + other)


def word_at(place):
    """Return the word at a place, from 0, of all words of letters a to z, by length and alphabet."""
    letters = []
    rest = place + 1
    while rest > 0:
        rest, letter = divmod(rest - 1, len(LETTERS))
        letters.append(LETTERS[letter])
    return "".join(letters[::-1])


def words_by_name(message):
    """Return the words of the selects of a message, ascending, in a dict by the names of the selects."""
    words = {}
    for node in all_nodes(message):
        if node[0] == "select":
            words.setdefault(node[1], []).extend([word for word, _ in cases_of(node)])
    return {name: sorted(set(words[name])) for name in words}


def first_number(tells):
    """Return the first number for which a function says True."""
    number = 0
    while not tells(number):
        number += 1
    return number


def first_word(words, tells):
    """Return the first word for which a function says True: of some words, and then of all others."""
    for word in words:
        if tells(word):
            return word
    # For the words ahead it does not say True a second time.
    place = 0
    while not tells(word_at(place)):
        place += 1
    return word_at(place)


def row_of(joiner, message, category_sets):
    """Return the marks of the diagrams of the nodes of a message."""
    return tuple([message_mark(joiner, [node], category_sets) for node in message])


def rows_of(joiner, one, other, language):
    """Return the marks of the diagrams of the nodes of two messages, a row for each message."""
    category_sets = CategorySets(language)
    return row_of(joiner, one, category_sets), row_of(joiner, other, category_sets)


def are_alike(one, other, language):
    """Tell whether two messages show the same text for all arguments."""
    # For its error.
    joined_kinds(one, other)
    joiner = Joiner()
    return joiner.show_the_same(rows_of(joiner, one, other, language), ())


def telling_value(joiner, rows, name, kind, words):
    """Return the first value of a name with which two rows of diagrams still do not show the same."""
    def tells(value):
        return not joiner.show_the_same(rows, ((name, value),))
    return first_number(tells) if kind == "number" else first_word(words, tells)


def telling_arguments(one, other, language):
    """Return the first arguments for which two messages show unlike texts, or None if they are alike."""
    kinds = joined_kinds(one, other)
    joiner = Joiner()
    rows = rows_of(joiner, one, other, language)
    if joiner.show_the_same(rows, ()):
        return None
    words = words_by_name(one + other)
    arguments = {}
    for name in kinds:
        value = telling_value(joiner, rows, name, kinds[name], words.get(name, []))
        arguments[name] = value
        rows = tuple([tuple([joiner.with_value(mark, name, value) for mark in row]) for row in rows])
    return arguments
