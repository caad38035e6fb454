"""Whether two messages show the same text for all arguments, and the first arguments that tell them apart."""

from messageways.choosing import message_mark
from messageways.counting import CategorySets
from messageways.joining import Joiner
from messageways.messages import all_nodes, cases_of, kinds_of
from messageways.notation import LETTERS


def joined_kinds(one, other):
    """Return the kinds of two messages together."""
    return kinds_of(one + other)


def word_at(place):
    """Return the word at a place, from 0, of all words of letters a to z, by length and alphabet."""
    letters = []
    rest = place + 1
    while rest > 0:
        rest, letter = divmod(rest - 1, len(LETTERS))
        letters.append(LETTERS[letter])
    return "".join(letters[::-1])


def words_by_name(message):
    """Return the words of the selects of a message, ascending, in a dict by the names of the selects."""
    words = {}
    for node in all_nodes(message):
        if node[0] == "select":
            words.setdefault(node[1], []).extend([word for word, _ in cases_of(node)])
    return {name: sorted(set(words[name])) for name in words}


def first_number(tells):
    """Return the first number for which a function says True."""
    number = 0
    while not tells(number):
        number += 1
    return number


def first_word(words, tells):
    """Return the first word for which a function says True: of some words, and then of all others."""
    for word in words:
        if tells(word):
            return word
    # For the words ahead it does not say True a second time.
    place = 0
    while not tells(word_at(place)):
        place += 1
    return word_at(place)


def without_same_ends(one, other):
    """Return two lists without the items at their ends that both of them have."""
    most = min(len(one), len(other))
    begin = 0
    while begin < most and one[begin] == other[begin]:
        begin += 1
    end = 0
    while end < most - begin and one[-1 - end] == other[-1 - end]:
        end += 1
    return one[begin:len(one) - end], other[begin:len(other) - end]


def unlike_marks(joiner, one, other, language):
    """Return the marks of the diagrams of two messages without what both show at their ends."""
    category_sets = CategorySets(language)
    rows = []
    for message in (one, other):
        marks = [message_mark(joiner, [node], category_sets) for node in message]
        rows.append([mark for mark in marks if mark != joiner.empty])
    # What both show ahead and behind cannot tell them apart, but would make the diagrams greater.
    return tuple([joiner.joined(row) for row in without_same_ends(rows[0], rows[1])])


def are_alike(one, other, language):
    """Tell whether two messages show the same text for all arguments."""
    # For its error.
    joined_kinds(one, other)
    first, second = unlike_marks(Joiner(), one, other, language)
    return first == second


def telling_value(joiner, marks, name, kind, words):
    """Return the first value of a name with which two diagrams are still not the same."""
    def tells(value):
        return not joiner.are_same(marks, ((name, value),))
    return first_number(tells) if kind == "number" else first_word(words, tells)


def telling_arguments(one, other, language):
    """Return the first arguments for which two messages show unlike texts, or None if they are alike."""
    kinds = joined_kinds(one, other)
    joiner = Joiner()
    marks = unlike_marks(joiner, one, other, language)
    if marks[0] == marks[1]:
        return None
    words = words_by_name(one + other)
    arguments = {}
    for name in kinds:
        value = telling_value(joiner, marks, name, kinds[name], words.get(name, []))
        arguments[name] = value
        marks = tuple([joiner.with_value(mark, name, value) for mark in marks])
    return arguments
