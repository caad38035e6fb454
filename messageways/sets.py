"""Sets of numbers from 0 on that repeat from somewhere on: a head, and a cycle behind it."""

from math import lcm

ALL = ((), (True,))
NONE = ((), (False,))


def prime_factors(number):
    """Return the prime factors of a number, each as often as it is in it."""
    factors = []
    factor = 2
    while factor * factor <= number:
        if number % factor == 0:
            factors.append(factor)
            number = number // factor
        else:
            factor += 1
    return factors + [number] if number > 1 else factors


def shortest_cycle(cycle):
    """Return the shortest tuple that repeats to a cycle."""
    size = len(cycle)
    for factor in prime_factors(size):
        shorter = size // factor
        if cycle[shorter:size] == cycle[:size - shorter]:
            size = shorter
    return cycle[:size]


def turned_back(head, cycle, many):
    """Return a head without so many items at its end, and the cycle as it goes on from there."""
    turn = len(cycle) - many % len(cycle)
    return head[:len(head) - many], cycle[turn:] + cycle[:turn]


def settled(head, cycle):
    """Return the settled form of a set: with the shortest cycle, and with it the shortest head."""
    head = tuple(head)
    cycle = shortest_cycle(tuple(cycle))
    many = 0
    while many < len(head) and head[-1 - many] == cycle[-1 - many % len(cycle)]:
        many += 1
    return turned_back(head, cycle, many)


def stretched(one, head_size, cycle_size):
    """Return the items of a head and a cycle, for a longer head and one turn of a longer cycle."""
    head, cycle = one
    missing = head_size + cycle_size - len(head)
    return head + (cycle * (missing // len(cycle) + 1))[:missing]


def contains(one, number):
    """Tell whether a number is in a set."""
    head, cycle = one
    if number < 0:
        return False
    if number < len(head):
        return head[number]
    return cycle[(number - len(head)) % len(cycle)]


def is_empty(one):
    """Tell whether no number is in a set."""
    return one == NONE


def is_within(one, other):
    """Tell whether all numbers of a set are in another one."""
    return is_empty(difference(one, other))


def complement(one):
    """Return the set of the numbers that are not in a set."""
    head, cycle = one
    return tuple([not inside for inside in head]), tuple([not inside for inside in cycle])


def common(one, other):
    """Return the set of the numbers that are in both sets."""
    head_size = max(len(one[0]), len(other[0]))
    cycle_size = lcm(len(one[1]), len(other[1]))
    if (False,) in (one[1], other[1]):
        # Behind the heads there is nothing in common, however long the other cycle is.
        cycle_size = 1
    first = stretched(one, head_size, cycle_size)
    second = stretched(other, head_size, cycle_size)
    inside = [in_one and in_other for in_one, in_other in zip(first, second)]
    return settled(inside[:head_size], inside[head_size:])


def union(one, other):
    """Return the set of the numbers that are in one of two sets."""
    return complement(common(complement(one), complement(other)))


def difference(one, other):
    """Return the set of the numbers of a set that are not in another one."""
    return common(one, complement(other))


def least(one):
    """Return the least number of a set, or None if it has none."""
    inside = one[0] + one[1]
    return inside.index(True) if True in inside else None


def single(number):
    """Return the set of one number."""
    return range_set(number, number)


def range_set(low, high):
    """Return the set of the numbers between two bounds, both included."""
    return settled([False] * low + [True] * (high + 1 - low), [False])


def moved(one, offset):
    """Return the set of the numbers from an offset on that are in a set if the offset is taken away."""
    return settled((False,) * offset + one[0], one[1])


def relation_set(relation):
    """Return the set of the numbers for which a relation holds."""
    modulus, inside, ranges = relation
    size = modulus if modulus else max([high + 1 for _, high in ranges])
    marks = [not inside] * size
    for low, high in ranges:
        # A range may go on beyond the greatest remainder.
        stop = min(high + 1, size)
        marks[low:stop] = [inside] * (stop - low)
    return settled([], marks) if modulus else settled(marks, [not inside])


def row_set(row):
    """Return the set of the numbers for which all relations of a row hold."""
    found = ALL
    # Those without a modulus first: what they leave may be so little that no cycle gets long.
    for relation in sorted(row, key=lambda one: one[0]):
        found = common(found, relation_set(relation))
    return found


def condition_set(condition):
    """Return the set of the numbers for which a condition holds."""
    found = NONE
    for row in condition:
        found = union(found, row_set(row))
    return found


def category_sets(language):
    """Return the sets of the numbers of the categories of a language, and of "other"."""
    found = {}
    rest = ALL
    for category, condition in language.rules:
        holds = condition_set(condition)
        found[category] = common(rest, holds)
        rest = difference(rest, holds)
    found["other"] = rest
    return found
