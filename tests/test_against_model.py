"""Many lines of calls, against a model that works its answers out another way."""

import random
import unittest

from tests.examples import EIGHTEEN, OTHER_SIX, SIX_APART, TWENTY_FOUR, TWENTY_TWO, two_planes
from tests.lines import LARGEST, NUMBERS, ask
from tests.model import Model

ALONE = ("sets", "way", "ways", "seen", "needed", "state")


def some_row(source, size):
    if source.random() < 0.1:
        size = source.randrange(7)
    numbers = source.choice([(-1, 0, 1), (-3, -2, -1, 0, 1, 2, 3), (0, 0, 0, 1)])
    row = [source.choice(numbers) for place in range(size)]
    if row and source.random() < 0.1:
        row[source.randrange(size)] = source.choice((4, -4, 2147483647, -2147483648))
    return row


def some_index(source, most):
    return source.choice((source.randrange(most), source.randrange(most), source.randrange(most), most, LARGEST))


def some_rising(source, below, longest):
    """Mostly rising and of what there may be; but sometimes not."""
    row = sorted(source.sample(range(below), source.randrange(min(below, 5) + 1)))
    if row and source.random() < 0.1:
        row.insert(source.randrange(len(row)), source.choice(row))
    if source.random() < 0.1:
        source.shuffle(row)
    if source.random() < 0.05:
        row.append(source.choice((below, LARGEST)))
    if source.random() < 0.02:
        row = list(range(longest))
    return row


def some_call(source, size):
    name = source.choice(
        ["direction"] * 12 + ["remove"] * 3 + ["directionis", "right", "set", "of", "fits", "fits", "fits", "shows"]
        + list(ALONE)
    )
    if name in ALONE:
        return (name,)
    if name == "direction":
        return name, some_row(source, size)
    if name == "fits":
        return name, some_rising(source, 8, 30)
    if name == "shows":
        return name, some_rising(source, 5, 60)
    if name == "right":
        return name, some_index(source, 12), some_index(source, 12)
    return name, some_index(source, 12)


def some_line(source, steps):
    size = source.choice((2, 3, 4))
    calls = [("begin", size)] if source.random() < 0.9 else []
    for step in range(steps):
        if source.random() < 0.01:
            wanted = source.choice((0, 1, 2, 3, 4, 5, LARGEST))
            calls.append(("begin", wanted))
            size = wanted if wanted in (2, 3, 4) else size
        calls.append(some_call(source, size))
    return calls


def line_through(source, family):
    """Puts directions in, some turned about, asks, takes one out, and asks again, some times over."""
    rows = []
    for row in family:
        sign = source.choice((1, -1))
        rows.append([sign * number for number in row])
    source.shuffle(rows)
    calls = [("begin", 4)] + [("direction", row) for row in rows]
    for left in range(len(rows), len(rows) - 6, -1):
        calls += [(name,) for name in ALONE]
        calls += [("set", source.randrange(8)), ("of", source.randrange(10)), ("fits", some_rising(source, left, 30))]
        calls += [("shows", some_rising(source, 9, 60)), ("shows", list(range(9)))]
        calls.append(("remove", source.randrange(left)))
    return calls


class AgainstModel(unittest.TestCase):
    def check(self, calls):
        model = Model()
        expected = [model.answer(*call) for call in calls]
        self.assertEqual(ask(*calls), expected, calls)
        return expected

    def test_lines_of_all_sorts(self):
        made = set()
        answered = set()
        for seed in range(150):
            calls = some_line(random.Random(seed), 60)
            expected = self.check(calls)
            made.update(call[0] for call in calls)
            answered.update((call[0], answer[0]) for call, answer in zip(calls, expected))
        self.assertEqual(made, set(NUMBERS))
        for name, number in (
            ("begin", -22), ("direction", -22), ("direction", -17), ("remove", -2), ("set", -2), ("of", -2),
            ("fits", -22), ("fits", 0), ("fits", 1), ("ways", -75), ("shows", -22), ("needed", -6), ("state", -11),
        ):
            self.assertIn((name, number), answered)

    def test_a_line_of_400_calls_with_ever_new_complete_sets(self):
        calls = [("begin", 4)] + [("direction", list(row)) for row in TWENTY_FOUR]
        for i in range(125):
            row = list(TWENTY_FOUR[i % 24])
            calls += [("remove", 0), ("direction", row), ("of", i % 24)]
        self.assertEqual(len(calls), 400)
        self.check(calls)

    def test_directions_that_are_rich_in_complete_sets(self):
        families = (EIGHTEEN, EIGHTEEN + OTHER_SIX[:3], TWENTY_FOUR, TWENTY_TWO, two_planes(6), SIX_APART)
        for seed in range(36):
            self.check(line_through(random.Random(seed), families[seed % 6]))


if __name__ == "__main__":
    unittest.main()
