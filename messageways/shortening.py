"""Which choices can be shortened so that a message still shows the same."""

from messageways.choosing import row_marks
from messageways.counting import CategorySets
from messageways.joining import Joiner
from messageways.languages import category_of
from messageways.ways import cases_within


def taking_over(node, cases, place, language):
    """Return the case of a choice that is chosen in the place of one that is left out."""
    key = cases[place].step[1]
    category = category_of(language, key - node[2]) if isinstance(key, int) else "other"
    found = [case for case in cases if case.step[1] == category]
    return found[0] if found else cases[-1]


class Comparer:
    """The diagrams of the cases of messages in a language, compared where the cases come up.

    The messages are trimmed or made of such by shortening, so that all cases that have a key
    can come up. It is enough to compare what takes another one's place with it there: what is shown ahead
    of both and behind both is the same.
    """

    def __init__(self, language):
        self.category_sets = CategorySets(language)
        self.joiner = Joiner()
        # By cases: the marks of the diagrams of what stands in them, one behind the other.
        self.rows = {}

    def cases_of_message(self, message):
        """Return a message as a case and the cases within it, and keep the marks of their diagrams."""
        cases = cases_within(message, self.category_sets)
        self.rows = {}
        # The whole message is compared with nothing: joining all of it could take long.
        for case in cases[:0:-1]:
            inner = [self.joiner.joined(self.rows[one]) for place in case.inner for one in case.inner[place]]
            self.rows[case] = row_marks(self.joiner, case.message, case.plural, inner, self.category_sets)
        return cases

    def limited(self, mark, name, known):
        """Return the mark of a diagram that shows nothing for other values of a name than those known."""
        empty = self.joiner.empty
        if known[0] == "is":
            return self.joiner.with_value(mark, name, known[1])
        if known[0] == "not":
            cases = [(word, empty) for word in sorted(known[1])]
            return self.joiner.chosen(("word", name, tuple(cases), mark))
        head, cycle = [tuple([mark if inside else empty for inside in row]) for row in known[1:]]
        return self.joiner.chosen(("number", name, head, cycle))

    def show_the_same(self, case, other):
        """Tell whether another case shows the same as a case wherever this comes up."""
        rows = self.joiner.short_rows((self.rows[case], self.rows[other]))
        for name in sorted(case.context):
            if self.joiner.table.is_named(name, rows[0] + rows[1]):
                known = case.context[name]
                limited = [tuple([self.limited(mark, name, known) for mark in row]) for row in rows]
                rows = self.joiner.short_rows(limited)
        return self.joiner.show_the_same(rows, ())

    def can_leave_out(self, node, cases, place):
        """Tell whether a case of a choice is as the one that is chosen without it."""
        return self.show_the_same(cases[place], taking_over(node, cases, place, self.category_sets.language))

    def can_be_other(self, cases):
        """Tell whether all cases of a choice are as its other message, the last one of them."""
        return all([self.show_the_same(case, cases[-1]) for case in cases[:-1]])
