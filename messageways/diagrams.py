"""Diagrams: what a message shows in a language, for all arguments."""

from messageways.branching import mark_at
from messageways.choosing import message_mark
from messageways.counting import CategorySets
from messageways.joining import Joiner
from messageways.messages import kinds_of
from messageways.nesting import Gathered, kept, nested
from messageways.parts import part_with
from messageways.tables import is_choosing


def diagram_of(message, language):
    """Return the diagram of a message in a language."""
    # For its error: the diagram of a bad message would have no shape.
    kinds_of(message)
    joiner = Joiner()
    return nested(joiner.table, message_mark(joiner, message, CategorySets(language)))


def restricted(diagram, name, value):
    """Return a diagram with a value put in for a name."""
    joiner = Joiner()
    mark = kept(joiner.table, diagram)
    return nested(joiner.table, joiner.with_value(mark, name, value))


def text_at(diagram, arguments):
    """Return the text that a diagram shows for arguments."""
    while is_choosing(diagram):
        diagram = mark_at(diagram, diagram, diagram[1], arguments[diagram[1]])
    return "".join([part_with(part, arguments) for part in diagram[1]])


def many_nodes(diagram):
    """Return how many different diagrams stand within a diagram, itself included."""
    return len(Gathered(diagram).diagrams)
