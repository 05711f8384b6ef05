"""Directions that more than one test asks about."""

import itertools

AXES_3 = [[1, 0, 0], [0, 1, 0], [0, 0, 1]]
AXES_4 = [[1, 0, 0, 0], [0, 1, 0, 0], [0, 0, 1, 0], [0, 0, 0, 1]]

# Cabello, Estebaranz and Garcia-Alcaine: each of the eighteen stands in two of the nine.
NINE = [
    [(0, 0, 0, 1), (0, 0, 1, 0), (1, 1, 0, 0), (1, -1, 0, 0)],
    [(0, 0, 0, 1), (0, 1, 0, 0), (1, 0, 1, 0), (1, 0, -1, 0)],
    [(1, -1, 1, -1), (1, -1, -1, 1), (1, 1, 0, 0), (0, 0, 1, 1)],
    [(1, -1, 1, -1), (1, 1, 1, 1), (1, 0, -1, 0), (0, 1, 0, -1)],
    [(0, 0, 1, 0), (0, 1, 0, 0), (1, 0, 0, 1), (1, 0, 0, -1)],
    [(1, -1, -1, 1), (1, 1, 1, 1), (1, 0, 0, -1), (0, 1, -1, 0)],
    [(1, 1, -1, 1), (1, 1, 1, -1), (1, -1, 0, 0), (0, 0, 1, 1)],
    [(1, 1, -1, 1), (-1, 1, 1, 1), (1, 0, 1, 0), (0, 1, 0, -1)],
    [(1, 1, 1, -1), (-1, 1, 1, 1), (1, 0, 0, 1), (0, 1, -1, 0)],
]
EIGHTEEN = sorted({row for chosen in NINE for row in chosen})
NINE_BY_NUMBER = sorted(sorted(EIGHTEEN.index(row) for row in chosen) for chosen in NINE)

# Peres: the axes, all that have two places of 1 or -1, and all that have four.
TWENTY_FOUR = (
    [tuple(row) for row in AXES_4]
    + [(1, 1, 0, 0), (1, -1, 0, 0), (1, 0, 1, 0), (1, 0, -1, 0), (1, 0, 0, 1), (1, 0, 0, -1)]
    + [(0, 1, 1, 0), (0, 1, -1, 0), (0, 1, 0, 1), (0, 1, 0, -1), (0, 0, 1, 1), (0, 0, 1, -1)]
    + [(1, b, c, d) for b in (1, -1) for c in (1, -1) for d in (1, -1)]
)

# What the twenty-four have beside the eighteen (of which one is turned about there).
OTHER_SIX = [(1, 0, 0, 0), (0, 1, 1, 0), (0, 1, 0, 1), (0, 0, 1, -1), (1, 1, -1, -1), (1, -1, 1, 1)]

# The plane: each is at right angles to its neighbour, 0 to 1, 2 to 3 and so on, and to no other.
PLANE = [
    (1, 0), (0, 1), (1, 1), (1, -1), (1, 2), (2, -1), (2, 1), (1, -2),
    (1, 3), (3, -1), (3, 1), (1, -3), (2, 3), (3, -2), (3, 2), (2, -3),
]


def two_planes(pairs):
    """So many pairs in each of two planes at right angles: any pair of the one is complete with any of the other."""
    flat = PLANE[:2 * pairs]
    return [row + (0, 0) for row in flat] + [(0, 0) + row for row in flat]


# All numbers are above 0, so no two are at right angles; and none is twice another.
NONE_RIGHT_3 = [row for row in itertools.product((1, 2, 3), repeat=3) if row not in ((2, 2, 2), (3, 3, 3))][:24]
NONE_RIGHT_4 = [row for row in itertools.product((1, 2, 3), repeat=4) if row not in ((2,) * 4, (3,) * 4)][:24]

# Three times three of which the one in the middle is at right angles to both others, and three more:
# 5 times 5 times 5 times 2 times 2 times 2 ways, and no complete set.
THOUSAND = [
    (1, 1, -1), (1, -1, 0), (2, 2, 1),
    (0, 2, 1), (2, 1, -2), (1, -2, 0),
    (1, 2, -2), (2, -1, 0), (1, 2, -1),
    (2, 0, -1), (0, 1, -1), (1, -2, 1),
]

# Six complete sets of four directions each, one behind another, and no more right angles.
SIX_APART = [
    (2, -3, 2, -3), (2, 1, -2, -1), (1, -2, -1, 2), (3, 2, 3, 2),
    (0, 1, -3, -1), (2, -1, 0, -1), (0, 3, 2, -3), (1, 1, 0, 1),
    (2, 0, 1, -1), (2, 1, -3, 1), (1, -2, 1, 3), (0, 2, 1, 1),
    (2, -2, 3, 2), (3, -2, -2, -2), (2, 3, 2, -2), (2, 2, -2, 3),
    (3, 3, 1, -3), (1, 2, 0, 3), (3, -3, 3, 1), (2, -1, -3, 0),
    (2, 3, -3, 2), (3, -2, -2, -3), (3, -2, 2, 3), (2, 3, 3, -2),
]

# In three dimensions, with complete sets among them, and found by trying: so many ways fit.
WITH_SETS_999 = [
    (3, -2, -2), (0, 1, -2), (1, 0, -3), (2, 1, 2), (3, 0, 1), (2, 0, 3), (1, -2, 0), (3, 3, 1), (1, 1, -3),
    (2, 3, 0), (1, 0, 2), (1, 2, -2), (2, -2, -1), (3, -2, 1), (1, 2, 1), (0, 0, 1), (1, 2, 0), (0, 1, 0), (2, -1, 0),
]
WITH_SETS_1000 = [
    (1, 2, 1), (0, 0, 1), (2, 2, 1), (0, 1, -1), (2, -2, -1), (2, 2, -1), (1, 2, -2), (2, -1, -1), (0, 2, 1),
    (2, -1, -2), (1, 0, 2), (1, -2, 2), (0, 1, 1), (2, -1, 2), (0, 1, -2), (1, 2, 0), (2, 1, 0), (2, 1, -2), (1, 0, 0),
]
WITH_SETS_1001 = [
    (1, 2, 1), (1, -2, 2), (1, 0, -1), (0, 1, 2), (2, -1, -2), (0, 1, 0), (1, 2, 0), (2, 1, -2), (1, 1, -1),
    (1, -2, 1), (2, -2, 1), (1, 1, 0), (1, 0, -2), (2, 2, 1), (1, 1, 2), (1, -1, 0),
]

# Found by trying: twelve complete sets, of each of which just one can be marked, but then always both
# of two at right angles (1 and 9), which stand together in none. So nothing fits, and no complete sets show it.
TWENTY_TWO = [
    (0, 1, -1, 0), (1, -1, 0, -1), (0, 0, 1, -1), (1, 1, -1, 0), (0, 1, 1, -1), (0, 1, -1, -1), (2, 1, 3, -2),
    (2, -2, 0, 1), (2, -1, -1, 0), (0, 0, 1, 0), (0, 0, 0, 1), (1, 0, 0, 0), (1, 1, 1, 0), (1, 2, 0, 2), (0, 1, 1, 2),
    (1, 0, 1, 1), (2, 0, -1, -1), (2, 1, 0, -2), (0, 1, 0, 0), (1, 0, -1, 1), (2, -2, 3, 1), (0, 2, 1, 1),
]
ONE_OF_EACH = [[0, 1, 2, 6, 9, 20], [0, 1, 6, 9, 16, 21], [1, 2, 8, 9, 14, 20], [1, 8, 9, 14, 16, 21]]
