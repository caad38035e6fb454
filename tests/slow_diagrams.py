"""A second way to the diagram of a message: slow, name by name and number by number."""

from math import lcm

from messageways.languages import category_of


def choices_within(message):
    found = []
    for node in message:
        if node[0] in ("select", "plural"):
            found.append(node)
            for inner in [case[1] for case in node[-2]] + [node[-1]]:
                found.extend(choices_within(inner))
    return found


def bounds_for(language):
    """A number from which on the categories repeat, and after how many they do."""
    relations = [relation for _, condition in language.rules for row in condition for relation in row]
    highs = [high for modulus, _, ranges in relations if not modulus for _, high in ranges]
    return max([0] + highs) + 1, lcm(*[modulus for modulus, _, _ in relations if modulus])


def slow_diagram(message, language):
    nodes = choices_within(message)
    names = sorted({node[1] for node in nodes})
    return diagram_by(message, language, nodes, names, {}, {})


def diagram_by(message, language, nodes, names, choosing, put):
    """The diagram by the rest of the names: choosing tells what is chosen by, put what is put in, too."""
    if not names:
        return ("leaf", short(parts_for(message, language, choosing, put, None)))
    name = names[0]

    def inner(value, puts):
        more = {**put, name: value} if puts else put
        return diagram_by(message, language, nodes, names[1:], {**choosing, name: value}, more)

    own = [node for node in nodes if node[1] == name]
    if own[0][0] == "select":
        words = sorted({word for node in own for word, _ in node[2]})
        return word_diagram(name, [(word, inner(word, True)) for word in words], inner(None, False))
    start, turn = bounds_for(language)
    keys = [key for node in own for key, _ in node[3] if isinstance(key, int)]
    start = max([start + max([node[2] for node in own])] + [key + 1 for key in keys])
    head = [inner(number, True) for number in range(start)]
    return number_diagram(name, head, [inner(start + number, False) for number in range(turn)])


def word_diagram(name, cases, other):
    cases = tuple([(word, diagram) for word, diagram in cases if diagram != put_in(other, name, word)])
    return ("word", name, cases, other) if cases else other


def number_diagram(name, head, cycle):
    head, cycle = list(head), list(cycle)
    for size in range(1, len(cycle) + 1):
        if len(cycle) % size == 0 and cycle[:size] * (len(cycle) // size) == cycle:
            cycle = cycle[:size]
            break
    while head and head[-1] == put_in(cycle[-1], name, len(head) - 1):
        head.pop()
        cycle = cycle[-1:] + cycle[:-1]
    if not head and len(cycle) == 1:
        return cycle[0]
    return ("number", name, tuple(head), tuple(cycle))


def put_in(diagram, name, value):
    """A diagram with a value put in for a name, by recursion."""
    if diagram[0] == "leaf":
        return ("leaf", short([put_in_part(part, name, value) for part in diagram[1]]))
    if diagram[0] == "word":
        if diagram[1] == name:
            return put_in(dict(diagram[2]).get(value, diagram[3]), name, value)
        cases = [(word, put_in(inner, name, value)) for word, inner in diagram[2]]
        return word_diagram(diagram[1], cases, put_in(diagram[3], name, value))
    head, cycle = diagram[2:]
    if diagram[1] == name:
        chosen = head[value] if value < len(head) else cycle[(value - len(head)) % len(cycle)]
        return put_in(chosen, name, value)
    head = [put_in(inner, name, value) for inner in head]
    return number_diagram(diagram[1], head, [put_in(inner, name, value) for inner in cycle])


def put_in_part(part, name, value):
    if isinstance(part, tuple) and part[0] == "show" and part[1] == name:
        return value if isinstance(value, str) else str(value - part[2])
    if isinstance(part, tuple) and part[0] == "hole" and isinstance(part[2], tuple) and part[2][0] == name:
        return ("hole", part[1], value - part[2][1])
    return part


def short(parts):
    row = []
    for part in parts:
        if isinstance(part, str) and row and isinstance(row[-1], str):
            row[-1] += part
        elif part != "":
            row.append(part)
    return tuple(row)


def parts_for(message, language, choosing, put, around):
    parts = []
    for node in message:
        if node[0] == "text":
            parts.append(node[1])
        elif node[0] == "show":
            parts.append(part_shown(node[1], 0, put))
        elif node[0] == "number":
            parts.append(part_shown(around[0], around[1], put))
        elif node[0] == "hole":
            left = put[around[0]] - around[1] if around and around[0] in put else around
            parts.append(("hole", node[1], left))
        elif node[0] == "select":
            chosen = dict(node[2]).get(choosing[node[1]], node[3])
            parts.extend(parts_for(chosen, language, choosing, put, around))
        else:
            parts.extend(parts_for(plural_case(node, language, choosing), language, choosing, put, node[1:3]))
    return parts


def part_shown(name, offset, put):
    if name not in put:
        return ("show", name, offset)
    return put[name] if isinstance(put[name], str) else str(put[name] - offset)


def plural_case(node, language, choosing):
    cases = dict(node[3])
    number = choosing[node[1]]
    if number in cases:
        return cases[number]
    return cases.get(category_of(language, number - node[2]), node[4])
