"""What a message shows for arguments."""

from messageways.errors import MissingArgument, WrongArgument
from messageways.languages import category_of
from messageways.messages import ASKED_KINDS, cases_of, is_choice, other_of

GROUP_FIGURES = 60


def figures_of(number):
    """Return the decimal figures of a number, with `-` ahead if it is below 0."""
    sign = "-" if number < 0 else ""
    groups = []
    rest = abs(number)
    # Python itself refuses to write numbers of some thousands of figures at once.
    while rest >= 10 ** 60:
        rest, last = divmod(rest, 10 ** 60)
        groups.append(str(last).zfill(GROUP_FIGURES))
    groups.append(sign + str(rest))
    return "".join(groups[::-1])


def text_of(argument, offset):
    """Return what is shown of an argument: a text, or a number less an offset."""
    return argument if isinstance(argument, str) else figures_of(argument - offset)


def case_with(node, key):
    """Return the message of the case with a key, or None if there is no such case."""
    for known, message in cases_of(node):
        if known == key:
            return message
    return None


def counted(node, language, number):
    """Return the message that a plural chooses for a number."""
    for key in (number, category_of(language, number - node[2])):
        message = case_with(node, key)
        if message is not None:
            return message
    return other_of(node)


def selected(node, word):
    """Return the message that a select chooses for a word."""
    message = case_with(node, word)
    return other_of(node) if message is None else message


def asked_argument(node, arguments):
    """Return the argument for which a node asks."""
    name = node[1]
    if name not in arguments:
        raise MissingArgument(name)
    argument = arguments[name]
    kind = "text" if isinstance(argument, str) else "number"
    if ASKED_KINDS[node[0]] not in ("any", kind):
        raise WrongArgument(name)
    return argument


def text_of_leaf(node, number, arguments):
    """Return what a node that is no choice shows, within a plural with such a number."""
    if node[0] == "text":
        return node[1]
    if node[0] == "number":
        return figures_of(number)
    return text_of(asked_argument(node, arguments), 0)


def shown(message, language, arguments):
    """Return the text that a message shows for arguments."""
    strings = []
    # The nodes that are still to be shown, the next one last, each with the number of the
    # plural around it; a list of its own, because messages may be nested deeper than calls.
    ahead = [(node, None) for node in message[::-1]]
    while ahead:
        node, number = ahead.pop()
        if not is_choice(node):
            strings.append(text_of_leaf(node, number, arguments))
            continue
        argument = asked_argument(node, arguments)
        if node[0] == "plural":
            number = argument - node[2]
            chosen = counted(node, language, argument)
        else:
            chosen = selected(node, argument)
        ahead.extend([(inner, number) for inner in chosen[::-1]])
    return "".join(strings)
