"""Joining diagrams, choosing between them, and putting values into them."""

from messageways.branching import mark_at, ways_on
from messageways.parts import row_with
from messageways.sets import shortest_cycle, turned_back
from messageways.tables import Table, inner_of, is_choosing, rebuilt

EMPTY_LEAF = ("leaf", ())

# After so many steps two rows of diagrams are joined to be compared.
MOST_STEPS = 500


def without_same_ends(one, other):
    """Return two tuples without the items at their ends that both of them have."""
    most = min(len(one), len(other))
    begin = 0
    while begin < most and one[begin] == other[begin]:
        begin += 1
    end = 0
    while end < most - begin and one[-1 - end] == other[-1 - end]:
        end += 1
    return one[begin:len(one) - end], other[begin:len(other) - end]


class Joiner:
    """A table of diagrams, and what was asked of them.

    A question is a tuple (way, marks, values), the values tuples of a name and what is put in
    for it. Its answer is the mark of a diagram: by the way "join" that of the texts of all the
    diagrams one behind the other, by the way "pick" that of the diagram to which the first one
    leads, whose leaves are tuples ("pick", place).
    """

    def __init__(self):
        self.table = Table()
        self.empty = self.table.mark_of(EMPTY_LEAF)
        self.answers = {}

    def asked(self, way, marks, values):
        """Return a question in short form, or its answer, if it is plain."""
        first = self.table.nodes[marks[0]]
        if first[0] == "pick":
            way, marks = "join", (marks[first[1]],)
        values = self.table.values_for(marks, values)
        if way == "join":
            if len(marks) == 1 and not values:
                return marks[0]
            if self.table.are_leaves(marks):
                return self.table.leaf_with(self.table.parts_of(marks), values)
            marks = tuple([mark for mark in marks if mark != self.empty])
            if len(marks) == 1 and not values:
                return marks[0]
        return (way, marks, values)

    def answer(self, question):
        """Return the answer of a question that has been answered."""
        return question if isinstance(question, int) else self.answers[question]

    def is_open(self, question):
        """Tell whether a question has not been answered."""
        return not isinstance(question, int) and question not in self.answers

    def plan_of(self, question):
        """Return the kind and the name of a diagram, its keys, and the questions for those within it."""
        way, marks, values = question
        nodes = [self.table.nodes[mark] for mark in marks]
        kind, name, keys, ways = ways_on(marks, nodes, values)
        inner = self.asked_each(way, ways[:len(keys)], name) + self.asked_each(way, ways[len(keys):], None)
        return kind, name, keys, inner

    def asked_each(self, way, ways, name):
        """Return the question for each row of marks with values, of which that of a name may differ."""
        questions = []
        # In heads and cycles the same rows often come again and again.
        found = {}
        for row, values in ways:
            question = found.get(row)
            if question is None:
                question = self.asked(way, row, values)
                if not self.table.is_named(name, row):
                    found[row] = question
            questions.append(question)
        return questions

    def carried_out(self, plan):
        """Return the mark of the diagram that was planned, when all within it has been answered."""
        kind, name, keys, inner = plan
        marks = [self.answer(question) for question in inner]
        if kind == "same":
            return marks[0]
        if kind == "word":
            return self.word_mark(name, keys, marks)
        return self.number_mark(name, marks[:len(keys)], tuple(marks[len(keys):]))

    def answered(self, way, marks, values):
        """Return the answer of a question."""
        asked = self.asked(way, marks, values)
        # The questions that are still open, the next one last, and their plans, when those
        # within them have been asked; a list of its own, because there may be many names.
        ahead = [(asked, None)]
        while ahead:
            question, plan = ahead.pop()
            if not self.is_open(question):
                continue
            if plan is None:
                plan = self.plan_of(question)
                ahead.append((question, plan))
                ahead.extend([(inner, None) for inner in plan[3] if self.is_open(inner)])
            else:
                self.answers[question] = self.carried_out(plan)
        return self.answer(asked)

    def word_mark(self, name, words, marks):
        """Return the mark of a choice by words, the mark for all other words last."""
        other = marks[-1]
        cases = [case for case in zip(words, marks) if not self.is_put(case[1], other, name, case[0])]
        return self.table.mark_of(("word", name, tuple(cases), other)) if cases else other

    def number_mark(self, name, head, cycle):
        """Return the mark of a choice by numbers."""
        cycle = shortest_cycle(cycle)
        many = 0
        size = len(head)
        while many < size and self.is_put(head[-1 - many], cycle[-1 - many % len(cycle)], name, size - 1 - many):
            many += 1
        head, cycle = turned_back(head, cycle, many)
        if not head and len(cycle) == 1:
            return cycle[0]
        return self.table.mark_of(("number", name, tuple(head), cycle))

    def is_put(self, one, other, name, value):
        """Tell whether a diagram is another one with a value put in for a name."""
        if not self.table.is_named(name, (other,)):
            return one == other
        # Only compared, up to the first difference, but not built: what is built just to be
        # compared would in turn be compared with more values put in, and so on.
        return self.are_same(((one,), (other,)), ((name, value),), None)

    def short_rows(self, rows):
        """Return two rows of diagrams without those that show nothing, and those at the ends that both have."""
        one, other = [tuple([mark for mark in row if mark != self.empty]) for row in rows]
        return without_same_ends(one, other)

    def rows_on(self, rows, values):
        """Return the rows of diagrams to which two of them lead, each two with values put in for names."""
        marks = rows[0] + rows[1]
        size = len(rows[0])
        ways = ways_on(marks, [self.table.nodes[mark] for mark in marks], values)[3]
        return [((row[:size], row[size:]), more) for row, more in ways]

    def are_same(self, rows, values, most):
        """Tell whether two rows of diagrams show the same with values put in for names; None after too many steps."""
        seen = set()
        ahead = [(rows, values)]
        while ahead:
            rows, values = ahead.pop()
            rows = self.short_rows(rows)
            marks = rows[0] + rows[1]
            values = self.table.values_for(marks, values)
            if not marks or (rows, values) in seen:
                continue
            seen.add((rows, values))
            if most is not None and len(seen) > most:
                return None
            # Two diagrams that are not the same show unlike texts.
            if not values and max(len(rows[0]), len(rows[1])) == 1:
                return False
            if not self.table.are_leaves(marks):
                ahead.extend(self.rows_on(rows, values))
            elif not self.table.show_the_same(rows, values):
                return False
        return True

    def show_the_same(self, rows, values):
        """Tell whether two rows of diagrams show the same for all arguments, with values put in for names."""
        rows = self.short_rows(rows)
        same = self.are_same(rows, values, MOST_STEPS)
        if same is None:
            # Though there are many ways, there may be few diagrams.
            marks = [self.joined([self.answered("join", (mark,), values) for mark in row]) for row in rows]
            same = marks[0] == marks[1]
        return same

    def far_parts(self, row):
        """Return the parts that diagrams show if all numbers are one that is far, and all words without a case."""
        parts = []
        for mark in row:
            node = self.table.nodes[mark]
            while is_choosing(node):
                mark = mark_at(mark, node, node[1], 10 ** 30 if node[0] == "number" else "")
                node = self.table.nodes[mark]
            parts.extend(node[1])
        return row_with(parts, {})

    def joined(self, marks):
        """Return the mark of some diagrams one behind the other."""
        while len(marks) > 1:
            pairs = [tuple(marks[place:place + 2]) for place in range(0, len(marks), 2)]
            marks = [self.answered("join", pair, ()) for pair in pairs]
        return marks[0] if marks else self.empty

    def chosen(self, node):
        """Return the mark of a choice between diagrams, in which any names may stand."""
        marks = sorted(set(inner_of(node)))
        if len(marks) == 1:
            return marks[0]
        places = {mark: place for place, mark in enumerate(marks, start=1)}
        picks = [self.table.mark_of(("pick", places[mark])) for mark in inner_of(node)]
        first = self.table.mark_of(rebuilt(node, picks))
        return self.answered("pick", (first, *marks), ())

    def with_value(self, mark, name, value):
        """Return the mark of a diagram with a value put in for a name."""
        return self.answered("join", (mark,), ((name, value),))
