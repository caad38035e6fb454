"""The fewest of some rows of marks that together have every mark.

Rows of marks are integers here: the bit at the place of a mark is 1 in those that have it.
"""


def places_of(bits):
    """Return the places of the bits of an integer that are 1."""
    return [place for place in range(bits.bit_length()) if bits >> place & 1]


def union_of(rows):
    """Return the row that has each mark that one of some rows has."""
    found = 0
    for row in rows:
        found = found | row
    return found


class Cover:
    """Rows, of which some are to be chosen so that together they have every mark."""

    def __init__(self, rows):
        self.rows = rows
        self.all_marks = union_of(rows)
        # By marks: the places of the rows that have them.
        self.having = {}
        for place, row in enumerate(rows):
            for mark in places_of(row):
                self.having.setdefault(mark, []).append(place)

    def forced(self):
        """Return the places of the rows that alone have some mark."""
        return sorted({places[0] for places in list(self.having.values()) if len(places) == 1})

    def ways_for(self, missing):
        """Return the places of the rows for each of some missing marks, of which no row has two; the fewest first."""
        ways = []
        taken = {}
        for places in sorted([self.having[mark] for mark in places_of(missing)], key=len):
            if not any([place in taken for place in places]):
                ways.append(places)
                taken.update({place: True for place in places})
        return ways

    def can_cover(self, missing, many):
        """Tell whether so many rows, or fewer, have all marks that are still missing."""
        seen = set()
        ahead = [(missing, many)]
        while ahead:
            missing, many = ahead.pop()
            if not missing:
                return True
            if (missing, many) in seen:
                continue
            seen.add((missing, many))
            ways = self.ways_for(missing)
            # Each of these marks needs a row of its own.
            if len(ways) <= many:
                ahead.extend([(missing & ~self.rows[place], many - 1) for place in ways[0]])
        return False

    def fewest(self):
        """Return the places of the fewest rows that have every mark; of several such the first ones."""
        chosen = self.forced()
        missing = self.all_marks & ~union_of([self.rows[place] for place in chosen])
        many = 0
        while not self.can_cover(missing, many):
            many += 1
        # A row that was passed over is in none of the fewest that are left.
        for place, row in enumerate(self.rows):
            if many and self.can_cover(missing & ~row, many - 1):
                chosen.append(place)
                missing = missing & ~row
                many -= 1
        return sorted(chosen)
