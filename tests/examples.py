"""Directions that more than one test asks about."""

AXES_3 = [[1, 0, 0], [0, 1, 0], [0, 0, 1]]
AXES_4 = [[1, 0, 0, 0], [0, 1, 0, 0], [0, 0, 1, 0], [0, 0, 0, 1]]

# Cabello, Estebaranz and Garcia-Alcaine: each of the eighteen stands in two of the nine.
NINE = [
    [(0, 0, 0, 1), (0, 0, 1, 0), (1, 1, 0, 0), (1, -1, 0, 0)],
    [(0, 0, 0, 1), (0, 1, 0, 0), (1, 0, 1, 0), (1, 0, -1, 0)],
    [(1, -1, 1, -1), (1, -1, -1, 1), (1, 1, 0, 0), (0, 0, 1, 1)],
    [(1, -1, 1, -1), (1, 1, 1, 1), (1, 0, -1, 0), (0, 1, 0, -1)],
    [(0, 0, 1, 0), (0, 1, 0, 0), (1, 0, 0, 1), (1, 0, 0, -1)],
    [(1, -1, -1, 1), (1, 1, 1, 1), (1, 0, 0, -1), (0, 1, -1, 0)],
    [(1, 1, -1, 1), (1, 1, 1, -1), (1, -1, 0, 0), (0, 0, 1, 1)],
    [(1, 1, -1, 1), (-1, 1, 1, 1), (1, 0, 1, 0), (0, 1, 0, -1)],
    [(1, 1, 1, -1), (-1, 1, 1, 1), (1, 0, 0, 1), (0, 1, -1, 0)],
]
EIGHTEEN = sorted({row for chosen in NINE for row in chosen})
NINE_BY_NUMBER = sorted(sorted(EIGHTEEN.index(row) for row in chosen) for chosen in NINE)

# Peres: the axes, all that have two places of 1 or -1, and all that have four.
TWENTY_FOUR = (
    [tuple(row) for row in AXES_4]
    + [(1, 1, 0, 0), (1, -1, 0, 0), (1, 0, 1, 0), (1, 0, -1, 0), (1, 0, 0, 1), (1, 0, 0, -1)]
    + [(0, 1, 1, 0), (0, 1, -1, 0), (0, 1, 0, 1), (0, 1, 0, -1), (0, 0, 1, 1), (0, 0, 1, -1)]
    + [(1, b, c, d) for b in (1, -1) for c in (1, -1) for d in (1, -1)]
)
