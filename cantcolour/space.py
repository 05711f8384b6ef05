"""The calls on one space, and what they answer."""

from cantcolour.geometry import are_along, complete_sets, products_together, right_angles
from cantcolour.marking import count_ways, first_way, fit, needed_directions, some_way_fits
from cantcolour.reading import split_calls
from cantcolour.showing import do_show, some_show

NONE_SUCH = -2
SOME_WAY_FITS = -6
NOT_BEGUN = -11
ONE_ALONG = -17
NOT_AS_TOLD = -22
TOO_MANY = -28
NOTHING_FITS = -33
TOO_MANY_TO_COUNT = -75

BEGIN = 0
MOST_DIRECTIONS = 24
GREATEST = 3
MOST_WAYS = 1000

# sets, way, ways, seen, needed and state: what they answer hangs on nothing that is handed in.
KEPT_CALLS = (5, 9, 10, 12, 13, 14)


class Space:
    # No dimensions stand for a space that is not begun.
    def __init__(self):
        self.dimensions = 0
        self.change_directions([])

    def begin(self, dimensions):
        self.dimensions = dimensions
        self.change_directions([])

    # What takes long to find is found once between two changes.
    def change_directions(self, directions):
        self.directions = directions
        self.known_angles = None
        self.known_sets = None
        self.kept_answers = {}

    def right(self):
        if self.known_angles is None:
            self.known_angles = right_angles(self.directions)
        return self.known_angles

    def complete(self):
        if self.known_sets is None:
            self.known_sets = complete_sets(self.right(), self.dimensions)
        return self.known_sets

    def has(self, i):
        return i < len(self.directions)


def is_direction(row, dimensions):
    if len(row) != dimensions:
        return False
    if max(row) > GREATEST or min(row) < -GREATEST:
        return False
    return any(row)


def answer_begin(space, arguments):
    dimensions = arguments[0]
    if dimensions < 2 or dimensions > 4:
        return [NOT_AS_TOLD]
    space.begin(dimensions)
    return [0]


def answer_direction(space, row):
    if not is_direction(row, space.dimensions):
        return [NOT_AS_TOLD]
    if any([are_along(row, other) for other in space.directions]):
        return [ONE_ALONG]
    number = len(space.directions)
    if number == MOST_DIRECTIONS:
        return [TOO_MANY]
    space.change_directions(space.directions + [row])
    return [number]


def answer_remove(space, arguments):
    i = arguments[0]
    if not space.has(i):
        return [NONE_SUCH]
    space.change_directions(space.directions[:i] + space.directions[i + 1:])
    return [len(space.directions)]


def answer_directionis(space, arguments):
    i = arguments[0]
    if not space.has(i):
        return [NONE_SUCH]
    return [space.dimensions] + space.directions[i]


def answer_right(space, arguments):
    i = arguments[0]
    j = arguments[1]
    if not space.has(i) or not space.has(j):
        return [NONE_SUCH]
    # With itself a direction never comes to 0, so the same one given twice needs no asking.
    together = products_together(space.directions[i], space.directions[j])
    return [1 if together == 0 else 0, together]


def answer_sets(space, arguments):
    return [len(space.complete())]


def answer_set(space, arguments):
    k = arguments[0]
    found = space.complete()
    if k >= len(found):
        return [NONE_SUCH]
    return [len(found[k])] + list(found[k])


def answer_of(space, arguments):
    i = arguments[0]
    if not space.has(i):
        return [NONE_SUCH]
    standing = [k for k, chosen in enumerate(space.complete()) if i in chosen]
    return [len(standing)] + standing


def is_rising_below(row, bound):
    for one, following in zip(row, row[1:]):
        if one >= following:
            return False
    return not row or row[-1] < bound


def answer_fits(space, row):
    if not is_rising_below(row, len(space.directions)):
        return [NOT_AS_TOLD]
    return [1 if fit(row, space.complete(), space.right()) else 0]


def answer_way(space, arguments):
    marked = first_way(space.complete(), space.right())
    if marked is None:
        return [NOTHING_FITS]
    return [len(marked)] + marked


def answer_ways(space, arguments):
    count = count_ways(space.complete(), space.right(), MOST_WAYS + 1)
    return [TOO_MANY_TO_COUNT if count > MOST_WAYS else count]


def answer_shows(space, row):
    found = space.complete()
    if not is_rising_below(row, len(found)):
        return [NOT_AS_TOLD]
    return [1 if do_show([found[k] for k in row]) else 0]


def answer_seen(space, arguments):
    return [1 if some_show(space.complete()) else 0]


def answer_needed(space, arguments):
    if some_way_fits(space.complete(), space.right()):
        return [SOME_WAY_FITS]
    needed = needed_directions(space.complete(), space.right())
    return [len(needed)] + needed


def answer_state(space, arguments):
    together = sum([len(chosen) for chosen in space.complete()])
    return [space.dimensions, len(space.directions), together]


# In the order of the calls' numbers.
ANSWERERS = (
    answer_begin,
    answer_direction,
    answer_remove,
    answer_directionis,
    answer_right,
    answer_sets,
    answer_set,
    answer_of,
    answer_fits,
    answer_way,
    answer_ways,
    answer_shows,
    answer_seen,
    answer_needed,
    answer_state,
)


def answer_kept(space, number):
    if number not in space.kept_answers:
        space.kept_answers[number] = ANSWERERS[number](space, [])
    return space.kept_answers[number]


def answer_call(space, number, arguments):
    if number != BEGIN and space.dimensions == 0:
        return [NOT_BEGUN]
    if number in KEPT_CALLS:
        return answer_kept(space, number)
    return ANSWERERS[number](space, arguments)


def answers(calls):
    space = Space()
    given = []
    for number, arguments in split_calls(calls):
        answer = answer_call(space, number, arguments)
        given.append(len(answer))
        given.extend(answer)
    return given
