"""The calls on one space, and what they answer."""

from cantcolour.geometry import are_along, complete_sets, products_together
from cantcolour.reading import split_calls

NONE_SUCH = -2
NOT_BEGUN = -11
ONE_ALONG = -17
NOT_AS_TOLD = -22
TOO_MANY = -28

BEGIN = 0
MOST_DIRECTIONS = 24
GREATEST = 3


class Space:
    # No dimensions stand for a space that is not begun.
    def __init__(self):
        self.dimensions = 0
        self.directions = []
        self.known_sets = None

    def begin(self, dimensions):
        self.dimensions = dimensions
        self.change_directions([])

    def change_directions(self, directions):
        self.directions = directions
        self.known_sets = None

    # Looking for the complete sets takes long, so it is done once between two changes.
    def complete(self):
        if self.known_sets is None:
            self.known_sets = complete_sets(self.directions, self.dimensions)
        return self.known_sets

    def has(self, i):
        return i < len(self.directions)


def is_direction(row, dimensions):
    if len(row) != dimensions:
        return False
    if max(row) > GREATEST or min(row) < -GREATEST:
        return False
    return any(row)


def answer_begin(space, arguments):
    dimensions = arguments[0]
    if dimensions < 2 or dimensions > 4:
        return [NOT_AS_TOLD]
    space.begin(dimensions)
    return [0]


def answer_direction(space, row):
    if not is_direction(row, space.dimensions):
        return [NOT_AS_TOLD]
    if any([are_along(row, other) for other in space.directions]):
        return [ONE_ALONG]
    number = len(space.directions)
    if number == MOST_DIRECTIONS:
        return [TOO_MANY]
    space.change_directions(space.directions + [row])
    return [number]


def answer_remove(space, arguments):
    i = arguments[0]
    if not space.has(i):
        return [NONE_SUCH]
    space.change_directions(space.directions[:i] + space.directions[i + 1:])
    return [len(space.directions)]


def answer_directionis(space, arguments):
    i = arguments[0]
    if not space.has(i):
        return [NONE_SUCH]
    return [space.dimensions] + space.directions[i]


def answer_right(space, arguments):
    i = arguments[0]
    j = arguments[1]
    if not space.has(i) or not space.has(j):
        return [NONE_SUCH]
    # With itself a direction never comes to 0, so the same one given twice needs no asking.
    together = products_together(space.directions[i], space.directions[j])
    return [1 if together == 0 else 0, together]


def answer_sets(space, arguments):
    return [len(space.complete())]


def answer_set(space, arguments):
    k = arguments[0]
    found = space.complete()
    if k >= len(found):
        return [NONE_SUCH]
    return [len(found[k])] + list(found[k])


def answer_of(space, arguments):
    i = arguments[0]
    if not space.has(i):
        return [NONE_SUCH]
    standing = [k for k, chosen in enumerate(space.complete()) if i in chosen]
    return [len(standing)] + standing


# In the order of the calls' numbers.
ANSWERERS = (
    answer_begin,
    answer_direction,
    answer_remove,
    answer_directionis,
    answer_right,
    answer_sets,
    answer_set,
    answer_of,
)


def answer_call(space, number, arguments):
    if number != BEGIN and space.dimensions == 0:
        return [NOT_BEGUN]
    # Better no answer than a made-up one, while the later calls are not written.
    if number >= len(ANSWERERS):
        raise NotImplementedError("this call is not written yet")
    return ANSWERERS[number](space, arguments)


def answers(calls):
    space = Space()
    given = []
    for number, arguments in split_calls(calls):
        answer = answer_call(space, number, arguments)
        given.append(len(answer))
        given.extend(answer)
    return given
