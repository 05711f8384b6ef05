"""A space that works its answers out another way than the program: by shortest form, and by trying all in order."""

import collections
import functools
import itertools
import math


def shortest(row):
    """The same for all that are along one another, and for these alone."""
    share = math.gcd(*row)
    if next(number for number in row if number) < 0:
        share = -share
    return tuple(number // share for number in row)


def rank(rows):
    """Of rows of 0 and 1, added up with 1 + 1 = 0."""
    rows = [list(row) for row in rows]
    found = 0
    for column in range(len(rows[0]) if rows else 0):
        heads = [row for row in rows[found:] if row[column]]
        if not heads:
            continue
        head = heads[0]
        place = next(at for at in range(found, len(rows)) if rows[at] is head)
        rows[found], rows[place] = rows[place], rows[found]
        for at in range(found + 1, len(rows)):
            if rows[at][column]:
                rows[at] = [(a + b) % 2 for a, b in zip(rows[at], head)]
        found += 1
    return found


@functools.lru_cache(maxsize=4)
def complete_of(size, rows):
    numbers = range(len(rows))
    apart = [[sum(a * b for a, b in zip(one, other)) == 0 for other in rows] for one in rows]
    return [
        chosen for chosen in itertools.combinations(numbers, size)
        if all(apart[i][j] for i, j in itertools.combinations(chosen, 2))
    ]


def rises_below(row, bound):
    return list(row) == sorted(set(row)) and all(number < bound for number in row)


class Model:
    def __init__(self, size=None, rows=()):
        self.size = size
        self.rows = [list(row) for row in rows]

    def product(self, i, j):
        return sum(self.rows[i][place] * self.rows[j][place] for place in range(self.size))

    def complete(self):
        return complete_of(self.size, tuple(map(tuple, self.rows)))

    def fits(self, marked):
        if any(self.product(i, j) == 0 for i, j in itertools.combinations(marked, 2)):
            return False
        return all(set(chosen) & set(marked) for chosen in self.complete())

    def fitting(self):
        """All ways that fit, the first in order first: direction after direction, unmarked before marked."""
        ending = collections.defaultdict(list)
        for chosen in self.complete():
            ending[chosen[-1]].append(set(chosen))
        begun = [()]
        while begun:
            marks = begun.pop()
            at = len(marks)
            if at and not all(any(marks[i] for i in chosen) for chosen in ending[at - 1]):
                continue
            if at == len(self.rows):
                yield [i for i in range(at) if marks[i]]
                continue
            if not any(marks[i] and self.product(i, at) == 0 for i in range(at)):
                begun.append(marks + (1,))
            begun.append(marks + (0,))

    def some_fit(self):
        return next(self.fitting(), None) is not None

    def show(self, chosen_sets):
        times = collections.Counter(i for chosen in chosen_sets for i in chosen)
        return len(chosen_sets) % 2 == 1 and all(count % 2 == 0 for count in times.values())

    def some_show(self):
        """Sets show it just if their own number isn't fixed by how often each direction stands in them."""
        found = self.complete()
        standing = [[int(i in chosen) for chosen in found] for i in range(len(self.rows))]
        return rank(standing + [[1] * len(found)]) > rank(standing)

    def answer(self, name, *arguments):
        if name == "begin":
            if arguments[0] not in (2, 3, 4):
                return [-22]
            self.size, self.rows = arguments[0], []
            return [0]
        if self.size is None:
            return [-11]
        return getattr(self, "answer_" + name)(*arguments)

    def answer_direction(self, row):
        if len(row) != self.size or not set(row) <= set(range(-3, 4)) or set(row) == {0}:
            return [-22]
        if shortest(row) in [shortest(other) for other in self.rows]:
            return [-17]
        if len(self.rows) == 24:
            return [-28]
        self.rows.append(list(row))
        return [len(self.rows) - 1]

    def answer_remove(self, i):
        if i not in range(len(self.rows)):
            return [-2]
        self.rows.pop(i)
        return [len(self.rows)]

    def answer_directionis(self, i):
        return [self.size, *self.rows[i]] if i in range(len(self.rows)) else [-2]

    def answer_right(self, i, j):
        if i not in range(len(self.rows)) or j not in range(len(self.rows)):
            return [-2]
        product = self.product(i, j)
        return [int(product == 0), product]

    def answer_sets(self):
        return [len(self.complete())]

    def answer_set(self, k):
        found = self.complete()
        return [self.size, *found[k]] if k in range(len(found)) else [-2]

    def answer_of(self, i):
        if i not in range(len(self.rows)):
            return [-2]
        standing = [k for k, chosen in enumerate(self.complete()) if i in chosen]
        return [len(standing), *standing]

    def answer_fits(self, row):
        return [int(self.fits(row))] if rises_below(row, len(self.rows)) else [-22]

    def answer_way(self):
        first = next(self.fitting(), None)
        return [-33] if first is None else [len(first), *first]

    def answer_ways(self):
        count = len(list(itertools.islice(self.fitting(), 1001)))
        return [count] if count <= 1000 else [-75]

    def answer_shows(self, row):
        found = self.complete()
        return [int(self.show([found[k] for k in row]))] if rises_below(row, len(found)) else [-22]

    def answer_seen(self):
        return [int(self.some_show())]

    def answer_needed(self):
        if self.some_fit():
            return [-6]
        alone = [i for i in range(len(self.rows)) if Model(self.size, self.rows[:i] + self.rows[i + 1:]).some_fit()]
        return [len(alone), *alone]

    def answer_state(self):
        return [self.size, len(self.rows), sum(len(chosen) for chosen in self.complete())]
