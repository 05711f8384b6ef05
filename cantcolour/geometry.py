"""Directions, right angles and complete sets."""


def products_together(one, other):
    return sum([a * b for a, b in zip(one, other)])


def are_along(one, other):
    for i in range(len(one)):
        for j in range(i):
            if one[i] * other[j] != one[j] * other[i]:
                return False
    return True


# For each direction a dict of those that are at right angles to it. The products are
# taken once for each two, in such an order that the keys of each dict rise.
def right_angles(directions):
    table = [{} for direction in directions]
    for i, one in enumerate(directions):
        for j in range(i + 1, len(directions)):
            if products_together(one, directions[j]) == 0:
                table[i][j] = True
                table[j][i] = True
    return table


def grow_sets(begun, table):
    grown = []
    for chosen in begun:
        for j in table[chosen[-1]]:
            if j > chosen[-1] and all([j in table[i] for i in chosen]):
                grown.append(chosen + (j,))
    return grown


# Sets that stand in order still do when each is grown by rising directions,
# so nothing is to be sorted.
def complete_sets(table, dimensions):
    found = [(i,) for i in range(len(table))]
    for size in range(1, dimensions):
        found = grow_sets(found, table)
    return found
