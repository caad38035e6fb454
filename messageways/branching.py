"""The ways on through some diagrams at once, by the first name by which one of them chooses."""

from math import lcm

from messageways.sets import stretched
from messageways.tables import is_choosing


def first_choice(nodes):
    """Return the first name by which one of some diagrams chooses, and the kind of that choice."""
    name, kind = min([(node[1], node[0]) for node in nodes if is_choosing(node)])
    return kind, name


def chooses_by(node, name):
    """Tell whether the choice of a diagram is by a name."""
    return is_choosing(node) and node[1] == name


def words_for(nodes, name):
    """Return the words, ascending, for which one of some diagrams has a case."""
    return sorted({word for node in nodes if chooses_by(node, name) for word, _ in node[2]})


def word_column(mark, node, name, words):
    """Return the marks to which a diagram leads, for words and then for any other one."""
    if not chooses_by(node, name):
        return [mark] * (len(words) + 1)
    cases = dict(node[2])
    return [cases.get(word, node[3]) for word in words] + [node[3]]


def number_turns(marks, nodes, name):
    """Return the head and the cycle of marks to which each of some diagrams leads."""
    return [node[2:] if chooses_by(node, name) else ((), (mark,)) for mark, node in zip(marks, nodes)]


def common_sizes(turns):
    """Return how long a head and a cycle all heads and cycles can be brought to."""
    head_size = 0
    cycle_size = 1
    for head, cycle in turns:
        head_size = max(head_size, len(head))
        cycle_size = lcm(cycle_size, len(cycle))
    return head_size, cycle_size


def all_ways(marks, nodes):
    """Return the kind and the name of the first choice, the keys, and rows of marks for them and the rest.

    The keys are words, or the numbers of a head; the rest is one row for other words, or a cycle of rows.
    """
    kind, name = first_choice(nodes)
    if kind == "word":
        keys = words_for(nodes, name)
        columns = [word_column(mark, node, name, keys) for mark, node in zip(marks, nodes)]
    else:
        turns = number_turns(marks, nodes, name)
        head_size, cycle_size = common_sizes(turns)
        keys = list(range(head_size))
        columns = [stretched(turn, head_size, cycle_size) for turn in turns]
    return kind, name, keys, list(zip(*columns))


def mark_at(mark, node, name, value):
    """Return the mark to which a diagram leads by the value of a name."""
    if not chooses_by(node, name):
        return mark
    if node[0] == "word":
        return dict(node[2]).get(value, node[3])
    head, cycle = node[2:]
    return head[value] if value < len(head) else cycle[(value - len(head)) % len(cycle)]


def ways_on(marks, nodes, values):
    """Return what all_ways returns, with values beside each row: each key is put in for the name.

    If a value is put in for the name anyway, there is only one way, of the kind "same".
    """
    known = dict(values)
    kind, name = first_choice(nodes)
    if name in known:
        row = [mark_at(mark, node, name, known[name]) for mark, node in zip(marks, nodes)]
        return "same", name, [], [(tuple(row), values)]
    kind, name, keys, rows = all_ways(marks, nodes)
    keyed = [(row, values + ((name, key),)) for key, row in zip(keys, rows)]
    return kind, name, keys, keyed + [(row, values) for row in rows[len(keys):]]
