"""Diagrams kept once each: equal ones have the same mark, an integer."""

from messageways.parts import name_in, row_with


def is_choosing(node):
    """Tell whether other diagrams stand within a diagram."""
    return node[0] in ("word", "number")


def inner_of(node):
    """Return what stands in the places of the diagrams within a diagram, from the first case on."""
    if node[0] == "word":
        return [inner for _, inner in node[2]] + [node[3]]
    if node[0] == "number":
        return list(node[2] + node[3])
    return []


def rebuilt(node, inner):
    """Return a diagram with other things in the places of the diagrams within it."""
    if node[0] == "word":
        cases = [(case[0], one) for case, one in zip(node[2], inner)]
        return ("word", node[1], tuple(cases), inner[-1])
    if node[0] == "number":
        size = len(node[2])
        return ("number", node[1], tuple(inner[:size]), tuple(inner[size:]))
    return node


class Table:
    """The diagrams by their marks, with marks in the places of the diagrams within them."""

    def __init__(self):
        self.nodes = []
        # By marks: dicts of the names that stand in the diagrams.
        self.named = []
        self.marks = {}

    def mark_of(self, node):
        """Return the mark of a diagram."""
        if node not in self.marks:
            self.marks[node] = len(self.nodes)
            self.nodes.append(node)
            self.named.append(self.names_in(node))
        return self.marks[node]

    def names_in(self, node):
        """Return a dict of the names by which a diagram chooses, or of which it shows the values."""
        if node[0] == "leaf":
            return {name_in(part): True for part in node[1] if name_in(part) is not None}
        names = {node[1]: True} if is_choosing(node) else {}
        for mark in sorted(set(inner_of(node))):
            names.update(self.named[mark])
        return names

    def leaf_with(self, parts, values):
        """Return the mark of the leaf of a row of parts, with values put in for names."""
        return self.mark_of(("leaf", row_with(parts, dict(values))))

    def are_leaves(self, marks):
        """Tell whether all of some diagrams are leaves."""
        return all([self.nodes[mark][0] == "leaf" for mark in marks])

    def parts_of(self, marks):
        """Return the parts of leaves one behind the other."""
        return [part for mark in marks for part in self.nodes[mark][1]]

    def show_the_same(self, rows, values):
        """Tell whether two rows of leaves have the same parts, with values put in for names."""
        first, second = [row_with(self.parts_of(row), dict(values)) for row in rows]
        return first == second

    def values_for(self, marks, values):
        """Return those of the values of names that stand in one of some diagrams."""
        return tuple([value for value in values if self.is_named(value[0], marks)])

    def is_named(self, name, marks):
        """Tell whether a name stands in one of some diagrams."""
        return any([name in self.named[mark] for mark in marks])

    def all_within(self, mark):
        """Return the marks of the diagrams within a diagram, itself included, the inner ones first."""
        seen = set()
        ahead = [mark]
        while ahead:
            mark = ahead.pop()
            if mark not in seen:
                seen.add(mark)
                ahead.extend(inner_of(self.nodes[mark]))
        # A diagram is kept after those within it.
        return sorted(seen)
