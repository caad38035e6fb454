"""Diagrams as tuples within tuples, from a table of diagrams and into it."""

from messageways.tables import inner_of, is_choosing, rebuilt


def nested(table, mark):
    """Return the diagram of a mark as tuples within tuples."""
    built = {}
    for one in table.all_within(mark):
        node = table.nodes[one]
        built[one] = rebuilt(node, [built[inner] for inner in inner_of(node)])
    return built[mark]


def first_inner(diagram):
    """Return the first diagram within a diagram."""
    if diagram[0] == "word":
        return diagram[2][0][1]
    return (diagram[2] + diagram[3])[0]


def last_inner(diagram):
    """Return the last diagram within a diagram."""
    return diagram[3] if diagram[0] == "word" else diagram[3][-1]


def sketch_of(diagram):
    """Return what may serve as a key, and is the same for equal diagrams: not much, but often enough."""
    if not is_choosing(diagram):
        return diagram
    first, last = first_inner(diagram), last_inner(diagram)
    while is_choosing(first):
        first = first_inner(first)
    while is_choosing(last):
        last = last_inner(last)
    return diagram[0], diagram[1], len(inner_of(diagram)), first, last


class Gathered:
    """The different diagrams within a diagram, itself the first one."""

    def __init__(self, diagram):
        self.diagrams = []
        # By places: the places of the diagrams within each.
        self.inner = []
        self.places = {}
        self.place_of(diagram)
        while len(self.inner) < len(self.diagrams):
            self.inner.append(self.inner_places(self.diagrams[len(self.inner)]))

    def place_of(self, diagram):
        """Return the place of a diagram, where it is put if it is new."""
        known = self.places.setdefault(sketch_of(diagram), [])
        for place in known:
            if self.diagrams[place] == diagram:
                return place
        known.append(len(self.diagrams))
        self.diagrams.append(diagram)
        return known[-1]

    def inner_places(self, diagram):
        """Return the places of the diagrams within a diagram."""
        places = []
        for inner in inner_of(diagram):
            # In a head or a cycle the same one often comes again and again.
            again = places and self.diagrams[places[-1]] == inner
            places.append(places[-1] if again else self.place_of(inner))
        return places

    def inner_first(self):
        """Return the places, those of the diagrams within each ahead of its own."""
        # Names ascend from the top down.
        leaves = [place for place, inner in enumerate(self.inner) if not inner]
        others = [place for place, inner in enumerate(self.inner) if inner]
        return leaves + sorted(others, key=lambda place: self.diagrams[place][1], reverse=True)


def kept(table, diagram):
    """Return the mark of a diagram that is given as tuples within tuples."""
    gathered = Gathered(diagram)
    marks = {}
    for place in gathered.inner_first():
        inner = [marks[one] for one in gathered.inner[place]]
        marks[place] = table.mark_of(rebuilt(gathered.diagrams[place], inner))
    return marks[0]
