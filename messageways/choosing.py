"""The diagram of a message, in a table of diagrams."""

from messageways.branching import common_sizes
from messageways.messages import cases_of, inner_messages, is_choice
from messageways.sets import settled, stretched


def plural_mark(joiner, node, marks, category_sets):
    """Return the mark of a plural, from the marks of its messages."""
    sets = category_sets.sets_for(node)
    head_size, cycle_size = common_sizes(list(sets.values()))
    exact = {key: mark for (key, _), mark in zip(cases_of(node), marks) if isinstance(key, int)}
    head_size = max([head_size] + [key + 1 for key in exact])
    row = [marks[-1]] * (head_size + cycle_size)
    for (key, _), mark in zip(cases_of(node), marks):
        if key in sets:
            inside = stretched(sets[key], head_size, cycle_size)
            row = [mark if chosen else before for chosen, before in zip(inside, row)]
    for key in exact:
        row[key] = exact[key]
    # Settled, so that cases that make no difference make no head.
    head, cycle = settled(row[:head_size], row[head_size:])
    return joiner.chosen(("number", node[1], head, cycle))


def select_mark(joiner, node, marks):
    """Return the mark of a select, from the marks of its messages."""
    cases = [(case[0], mark) for case, mark in zip(cases_of(node), marks) if mark != marks[-1]]
    return joiner.chosen(("word", node[1], tuple(sorted(cases)), marks[-1]))


def part_of(node, around):
    """Return the part that a node shows that is no choice, within a plural of such a name and offset."""
    if node[0] == "text":
        return node[1]
    if node[0] == "number":
        return ("show", *around)
    if node[0] == "hole":
        return ("hole", node[1], around)
    return ("show", node[1], 0)


def messages_within(message):
    """Return a message and all those within it, the outer ones first, and where the inner ones begin.

    Each stands in a tuple with the name and the offset of the innermost plural around it, or
    None. The messages that stand directly within one are beside one another.
    """
    found = [(message, None)]
    begins = []
    while len(begins) < len(found):
        message, around = found[len(begins)]
        begins.append(len(found))
        for node in message:
            within = node[1:3] if node[0] == "plural" else around
            found.extend([(inner, within) for inner in inner_messages(node)])
    return found, begins


def row_marks(joiner, message, around, inner, category_sets):
    """Return the marks of the choices of a message and of what stands between them, from those of their messages."""
    marks = []
    parts = []
    begin = 0
    for node in message:
        if not is_choice(node):
            parts.append(part_of(node, around))
            continue
        end = begin + len(inner_messages(node))
        marks.append(joiner.table.leaf_with(parts, ()))
        parts = []
        if node[0] == "plural":
            marks.append(plural_mark(joiner, node, inner[begin:end], category_sets))
        else:
            marks.append(select_mark(joiner, node, inner[begin:end]))
        begin = end
    marks.append(joiner.table.leaf_with(parts, ()))
    return tuple([mark for mark in marks if mark != joiner.empty])


def message_mark(joiner, message, category_sets):
    """Return the mark of the diagram of a message, which is not bad, with the sets of a language."""
    found, begins = messages_within(message)
    marks = {}
    for place in range(len(found) - 1, -1, -1):
        # Those directly within it end where those directly within the next one begin.
        end = begins[place + 1] if place + 1 < len(begins) else len(found)
        inner = [marks[one] for one in range(begins[place], end)]
        message, around = found[place]
        marks[place] = joiner.joined(row_marks(joiner, message, around, inner, category_sets))
    return marks[0]
