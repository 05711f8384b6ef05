"""Many lines of calls, against a model that goes other ways: by shortest form, and by trying all."""

import itertools
import math
import random
import unittest

from tests.examples import EIGHTEEN, TWENTY_FOUR
from tests.lines import LARGEST, ask


def shortest(row):
    """The same for all that are along one another, and for these alone."""
    share = math.gcd(*row)
    if next(number for number in row if number) < 0:
        share = -share
    return tuple(number // share for number in row)


class Model:
    def __init__(self):
        self.size = None
        self.rows = []

    def product(self, i, j):
        return sum(self.rows[i][place] * self.rows[j][place] for place in range(self.size))

    def complete(self):
        return [
            chosen for chosen in itertools.combinations(range(len(self.rows)), self.size)
            if all(self.product(i, j) == 0 for i, j in itertools.combinations(chosen, 2))
        ]

    def answer(self, name, *arguments):
        if name == "begin":
            if arguments[0] not in (2, 3, 4):
                return [-22]
            self.size, self.rows = arguments[0], []
            return [0]
        if self.size is None:
            return [-11]
        if name == "direction":
            return self.direction(arguments[0])
        if name == "sets":
            return [len(self.complete())]
        if name == "set":
            found = self.complete()
            return [self.size, *found[arguments[0]]] if arguments[0] in range(len(found)) else [-2]
        if any(i not in range(len(self.rows)) for i in arguments):
            return [-2]
        if name == "right":
            product = self.product(*arguments)
            return [int(product == 0), product]
        i = arguments[0]
        if name == "directionis":
            return [self.size, *self.rows[i]]
        if name == "of":
            standing = [k for k, chosen in enumerate(self.complete()) if i in chosen]
            return [len(standing), *standing]
        self.rows.pop(i)
        return [len(self.rows)]

    def direction(self, row):
        if len(row) != self.size or not set(row) <= set(range(-3, 4)) or set(row) == {0}:
            return [-22]
        if shortest(row) in [shortest(other) for other in self.rows]:
            return [-17]
        if len(self.rows) == 24:
            return [-28]
        self.rows.append(list(row))
        return [len(self.rows) - 1]


def some_row(source, size):
    if source.random() < 0.1:
        size = source.randrange(7)
    numbers = source.choice([(-1, 0, 1), (-3, -2, -1, 0, 1, 2, 3), (0, 0, 0, 1)])
    row = [source.choice(numbers) for place in range(size)]
    if row and source.random() < 0.1:
        row[source.randrange(size)] = source.choice((4, -4, 2147483647, -2147483648))
    return row


def some_index(source, most):
    return source.choice((source.randrange(most), source.randrange(most), source.randrange(most), most, LARGEST))


def some_call(source, size):
    name = source.choice(
        ["direction"] * 8 + ["directionis", "right", "right", "sets", "set", "set", "of", "of"] + ["remove"] * 2
    )
    if name == "direction":
        return name, some_row(source, size)
    if name == "sets":
        return (name,)
    if name == "right":
        return name, some_index(source, 12), some_index(source, 12)
    return name, some_index(source, 12)


class AgainstModel(unittest.TestCase):
    def check(self, calls):
        model = Model()
        expected = [model.answer(*call) for call in calls]
        self.assertEqual(ask(*calls), expected, calls)

    def test_lines_of_all_sorts(self):
        for seed in range(150):
            source = random.Random(seed)
            size = source.choice((2, 3, 4))
            calls = [("begin", size)] if source.random() < 0.9 else []
            for step in range(60):
                if source.random() < 0.01:
                    wanted = source.choice((0, 1, 2, 3, 4, 5, LARGEST))
                    calls.append(("begin", wanted))
                    size = wanted if wanted in (2, 3, 4) else size
                calls.append(some_call(source, size))
            self.check(calls)

    def test_a_line_of_400_calls_with_ever_new_complete_sets(self):
        calls = [("begin", 4)] + [("direction", list(row)) for row in TWENTY_FOUR]
        for i in range(125):
            row = list(TWENTY_FOUR[i % 24])
            calls += [("remove", 0), ("direction", row), ("of", i % 24)]
        self.assertEqual(len(calls), 400)
        self.check(calls)

    def test_directions_that_are_rich_in_complete_sets(self):
        for seed in range(12):
            source = random.Random(seed)
            rows = [list(row) for row in source.choice((EIGHTEEN, TWENTY_FOUR))]
            source.shuffle(rows)
            calls = [("begin", 4)] + [("direction", row) for row in rows]
            for step in range(8):
                calls.append(("remove", source.randrange(len(rows) - step)))
                calls.append(("sets",))
                calls.append(("set", source.randrange(8)))
                calls.append(("of", source.randrange(10)))
            self.check(calls)


if __name__ == "__main__":
    unittest.main()
