"""The sets of the numbers for which plurals look for their categories."""

from messageways.messages import cases_of
from messageways.sets import ALL, NONE, common, condition_set, difference, moved


class CategorySets:
    """The sets of a language, each worked out when it is first asked for.

    The rules behind those that are asked for are left out: they could make long cycles.
    """

    def __init__(self, language):
        self.language = language
        self.found = {}
        # The numbers of which none of the rules in found holds.
        self.rest = ALL
        self.moved_on = {}

    def set_of(self, category):
        """Return the numbers of a category; none if the language has no rule for it."""
        ruled = [name for name, _ in self.language.rules]
        while category in ruled and category not in self.found:
            name, condition = self.language.rules[len(self.found)]
            holds = condition_set(condition)
            self.found[name] = common(self.rest, holds)
            self.rest = difference(self.rest, holds)
        return self.found.get(category, NONE)

    def arguments_of(self, category, offset):
        """Return the arguments that, less an offset, are of a category."""
        if (category, offset) not in self.moved_on:
            self.moved_on[category, offset] = moved(self.set_of(category), offset)
        return self.moved_on[category, offset]

    def sets_for(self, node):
        """Return the sets of the arguments for which a plural looks for its categories."""
        keys = [key for key, _ in cases_of(node) if isinstance(key, str)]
        return {key: self.arguments_of(key, node[2]) for key in keys}
