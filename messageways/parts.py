"""Parts: of which the leaves of diagrams are made."""

from messageways.shown import text_of


def joined_strings(strings):
    """Return the parts of strings one behind the other: one, or none if they are empty."""
    joined = "".join(strings)
    return [joined] if joined else []


def short_row(parts):
    """Return a row of parts in short form."""
    row = []
    strings = []
    for part in parts:
        if isinstance(part, str):
            strings.append(part)
        else:
            row.extend(joined_strings(strings))
            strings = []
            row.append(part)
    return tuple(row + joined_strings(strings))


def name_in(part):
    """Return the name of which a part shows the value, or None."""
    if isinstance(part, str):
        return None
    if part[0] == "show":
        return part[1]
    return part[2][0] if isinstance(part[2], tuple) else None


def part_with(part, values):
    """Return a part with the value of its name, if there is one, put in for it."""
    name = name_in(part)
    if name not in values:
        return part
    if part[0] == "show":
        return text_of(values[name], part[2])
    return (part[0], part[1], values[name] - part[2][1])


def row_with(parts, values):
    """Return a row of parts in short form, with the values of names put in for them."""
    return short_row([part_with(part, values) for part in parts])
