"""Directions, right angles and complete sets."""


def products_together(one, other):
    return sum([a * b for a, b in zip(one, other)])


def are_along(one, other):
    for i in range(len(one)):
        for j in range(i):
            if one[i] * other[j] != one[j] * other[i]:
                return False
    return True


# For each direction a dict of those behind it that are at right angles to it:
# the products are taken once for each two, and its keys rise.
def right_behind(directions):
    table = []
    for i, one in enumerate(directions):
        behind = {}
        for j in range(i + 1, len(directions)):
            if products_together(one, directions[j]) == 0:
                behind[j] = True
        table.append(behind)
    return table


def grow_sets(begun, table):
    grown = []
    for chosen in begun:
        for j in table[chosen[-1]]:
            if all([j in table[i] for i in chosen]):
                grown.append(chosen + (j,))
    return grown


# Sets that stand in order still do when each is grown by rising directions,
# so nothing is to be sorted.
def complete_sets(directions, dimensions):
    table = right_behind(directions)
    found = [(i,) for i in range(len(directions))]
    for size in range(1, dimensions):
        found = grow_sets(found, table)
    return found
