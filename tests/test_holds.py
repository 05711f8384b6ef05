"""What the document says holds over the whole program, and that every call ends."""

import itertools
import unittest

from tests.examples import (
    AXES_3, AXES_4, EIGHTEEN, NONE_RIGHT_3, NONE_RIGHT_4, OTHER_SIX, PLANE, SIX_APART, THOUSAND, TWENTY_FOUR,
    TWENTY_TWO, WITH_SETS_1000, WITH_SETS_1001, two_planes,
)
from tests.lines import LARGEST, ask, ask_in, look_all, space_of
from tests.model import Model

RICH_3 = AXES_3 + [[1, 1, 0], [1, -1, 0], [1, 0, 1], [1, 0, -1], [0, 1, 1], [0, 1, -1], [1, 1, 1], [1, 1, -2]]
SPACES = [
    (2, []), (3, []), (4, []),
    (2, [(2, 1)]), (3, [(0, 2, 1)]), (4, [(0, 0, 2, 1)]),
    (2, [(2, 1), (-1, 2)]), (2, [(2, 1), (1, 2)]), (2, PLANE), (2, PLANE[::3]),
    (3, AXES_3), (3, [(1, 2, 3)] + AXES_3), (3, RICH_3), (3, RICH_3[::-1]), (3, THOUSAND), (3, NONE_RIGHT_3),
    (3, WITH_SETS_1000), (3, WITH_SETS_1001), (3, [(0, 0, 1)] + [row + (0,) for row in PLANE]),
    (4, AXES_4), (4, EIGHTEEN), (4, EIGHTEEN[1:]), (4, EIGHTEEN[:-1]), (4, EIGHTEEN + [(1, 2, 3, 1)]),
    (4, EIGHTEEN + OTHER_SIX[:3]), (4, TWENTY_FOUR), (4, TWENTY_FOUR[:12]), (4, TWENTY_FOUR[3:20]), (4, TWENTY_TWO),
    (4, TWENTY_TWO[1:]), (4, two_planes(2)), (4, two_planes(6)), (4, SIX_APART), (4, NONE_RIGHT_4),
    (4, [(0, 0, 0, 1)] + [row + (0,) for row in NONE_RIGHT_3[:23]]),
]
THE_SIX = (("way",), ("ways",), ("seen",), ("needed",), ("state",), ("sets",))


def before(way, count):
    """All ways to mark that come before this one, in order."""
    marks = tuple(int(i in way) for i in range(count))
    for tried in itertools.product((0, 1), repeat=count):
        if tried == marks:
            return
        yield [i for i in range(count) if tried[i]]


class WhatHolds(unittest.TestCase):
    def test_what_is_told_as_a_way_fits(self):
        for dimensions, rows in SPACES:
            way = ask_in(dimensions, rows, ("way",))[0]
            if way != [-33]:
                self.assertEqual(way[0], len(way) - 1)
                self.assertEqual(ask_in(dimensions, rows, ("fits", way[1:])), [[1]])

    def test_none_that_comes_before_it_fits(self):
        for dimensions, rows in SPACES:
            rows = list(rows[:9])
            way = ask_in(dimensions, rows, ("way",))[0][1:]
            tried = list(before(way, len(rows)))
            for start in range(0, len(tried), 350):
                given = ask_in(dimensions, rows, *[("fits", row) for row in tried[start:start + 350]])
                self.assertEqual(given, [[0]] * len(given))

    def test_the_first_of_all_that_fit(self):
        for dimensions, rows in SPACES:
            first = next(Model(dimensions, rows).fitting(), None)
            expected = [-33] if first is None else [len(first)] + first
            self.assertEqual(ask_in(dimensions, rows, ("way",)), [expected])

    def test_where_none_is_told_none_does(self):
        for rows in (EIGHTEEN, TWENTY_FOUR, TWENTY_TWO, EIGHTEEN + OTHER_SIX[:3]):
            self.assertEqual(list(Model(4, rows).fitting()), [])
            self.assertEqual(ask_in(4, rows, ("way",)), [[-33]])

    def test_way_ways_and_needed_say_alike_whether_some_fit(self):
        for dimensions, rows in SPACES:
            way, ways, seen, needed, state, sets = ask_in(dimensions, rows, *THE_SIX)
            some = way != [-33]
            self.assertEqual(ways != [0], some)
            self.assertEqual(needed == [-6], some)
            if seen == [1]:
                self.assertFalse(some)
            self.assertEqual(state, [dimensions, len(rows), dimensions * sets[0]])

    def test_what_some_complete_sets_show_is_so(self):
        for dimensions, rows in SPACES:
            count = ask_in(dimensions, rows, ("sets",))[0][0]
            tried = [list(range(count)), list(range(0, count, 2)), list(range(1, count))]
            tried += [[k for k in range(count) if k != out] for out in range(count)]
            given = ask_in(dimensions, rows, ("seen",), ("way",), *[("shows", row) for row in tried])
            if [1] in given[2:]:
                self.assertEqual(given[:2], [[1], [-33]])
        self.assertEqual(ask_in(4, EIGHTEEN, ("shows", list(range(9))), ("seen",), ("way",)), [[1], [1], [-33]])

    def test_in_three_dimensions_nothing_is_ever_shown_so(self):
        for dimensions, rows in SPACES:
            if dimensions < 4:
                self.assertEqual(ask_in(dimensions, rows, ("seen",)), [[0]])

    def test_with_fewer_directions_too(self):
        for dimensions, rows in SPACES:
            if ask_in(dimensions, rows, ("way",)) != [[-33]]:
                for i in range(len(rows)):
                    given = ask_in(dimensions, rows, *THE_SIX, ("remove", i), *THE_SIX)[7:]
                    self.assertNotEqual(given[0], [-33])
                    self.assertNotEqual(given[1], [0])
                    self.assertEqual(given[2:4], [[0], [-6]])

    def test_one_taken_out_after_another(self):
        # As soon as some way fits, some does to the end.
        for rows in (TWENTY_FOUR, TWENTY_FOUR[::-1], TWENTY_TWO, EIGHTEEN):
            calls = []
            for count in range(len(rows)):
                calls += [("remove", 0), ("way",)]
            ways = [answer != [-33] for answer in ask_in(4, rows, *calls)[1::2]]
            self.assertEqual(ways, sorted(ways))
            self.assertTrue(ways[-1])

    def test_what_is_refused_changes_nothing(self):
        for dimensions, rows in SPACES:
            count = len(rows)
            sets = ask_in(dimensions, rows, ("sets",))[0][0]
            refused = [
                ("begin", 0), ("begin", 1), ("begin", 5), ("begin", LARGEST), ("direction", []), ("direction", [0] * 4),
                ("direction", [4] * dimensions), ("remove", count), ("remove", LARGEST), ("directionis", count),
                ("right", 0, count), ("set", sets), ("of", count), ("fits", [count]), ("fits", [0, 0]),
                ("fits", [1, 0]), ("shows", [sets]), ("shows", [0, 0]), ("shows", [1, 0]), ("shows", [LARGEST]),
            ]
            refused += [("direction", [-number for number in row]) for row in rows[:1]]
            given = ask_in(dimensions, rows, *refused)
            self.assertTrue(all(len(answer) == 1 and answer[0] < 0 for answer in given), given)
            shown = ask_in(dimensions, rows, *look_all(count, sets))
            self.assertEqual(ask_in(dimensions, rows, *refused, *look_all(count, sets))[len(refused):], shown)

    def test_asking_changes_nothing(self):
        for dimensions, rows in SPACES:
            sets = ask_in(dimensions, rows, ("sets",))[0][0]
            shown = ask_in(dimensions, rows, *look_all(len(rows), sets))
            calls = look_all(len(rows), sets)
            self.assertEqual(ask_in(dimensions, rows, *calls[::-1], *calls)[len(calls):], shown)


class TurnedAbout(unittest.TestCase):
    def test_turned_about_it_is_marked_alike(self):
        for dimensions, rows in SPACES:
            turned = [[-number for number in row] if i % 3 else row for i, row in enumerate(rows)]
            self.assertEqual(ask_in(dimensions, turned, *THE_SIX), ask_in(dimensions, rows, *THE_SIX))

    def test_turned_about_it_is_no_other(self):
        for rows in (EIGHTEEN, TWENTY_TWO):
            count = len(rows)
            turned = [("direction", [-number for number in row]) for row in rows]
            given = ask_in(4, rows, *turned, *THE_SIX)
            self.assertEqual(given, [[-17]] * count + ask_in(4, rows, *THE_SIX))


class EveryCallEnds(unittest.TestCase):
    def test_twenty_four_with_many_at_right_angles(self):
        self.assertEqual(ask_in(4, TWENTY_FOUR, *THE_SIX), [[-33], [0], [1], [0], [4, 24, 96], [24]])
        flat = [6, 13, 15, 17, 19, 21, 23]
        self.assertEqual(ask_in(4, two_planes(6), *THE_SIX), [flat, [128], [0], [-6], [4, 24, 144], [36]])

    def test_twenty_four_of_which_no_two_are_at_right_angles(self):
        for dimensions, rows in ((3, NONE_RIGHT_3), (4, NONE_RIGHT_4)):
            given = ask_in(dimensions, rows, *THE_SIX)
            self.assertEqual(given, [[0], [-75], [0], [-6], [dimensions, 24, 0], [0]])

    def test_one_at_right_angles_to_all_others(self):
        rows = [(0, 0, 0, 1)] + [row + (0,) for row in NONE_RIGHT_3[:23]]
        given = ask_in(4, rows, *THE_SIX, *[("right", 0, j) for j in range(1, 24)])
        self.assertEqual(given, [[0], [-75], [0], [-6], [4, 24, 0], [0]] + [[1, 0]] * 23)
        given = ask_in(4, rows[:10], ("ways",), ("fits", [0]), ("fits", [0, 1]), ("fits", list(range(1, 10))))
        self.assertEqual(given, [[2 ** 9 + 1], [1], [0], [1]])

    def test_complete_sets_apart(self):
        given = ask_in(4, SIX_APART, *THE_SIX)
        self.assertEqual(given, [[6, 3, 7, 11, 15, 19, 23], [-75], [0], [-6], [4, 24, 24], [6]])

    def test_six_free_ahead_of_eighteen_that_do_not_fit(self):
        free = [(1, 2, 3, 1), (1, 3, 2, 1), (3, 1, 2, 1), (3, 2, 1, 1), (2, 1, 3, 1), (2, 3, 1, 1)]
        given = ask_in(4, free + EIGHTEEN, *THE_SIX)
        self.assertEqual(given, [[-33], [0], [1], [18] + list(range(6, 24)), [4, 24, 36], [9]])

    def test_a_line_of_400_calls_that_asks_ever_anew(self):
        for name in ("way", "ways", "needed", "seen", "state"):
            for rows in (TWENTY_FOUR, SIX_APART, NONE_RIGHT_4, two_planes(6), EIGHTEEN + OTHER_SIX[:5]):
                calls = space_of(4, rows)
                # The first is put in again behind the others, so after each round all stand as at first.
                while len(calls) + 3 <= 400:
                    row = list(rows[(len(calls) - len(rows) - 1) // 3 % len(rows)])
                    calls += [("remove", 0), ("direction", row), (name,)]
                given = ask(*calls)
                self.assertEqual(given[len(rows) + 3 * len(rows)], ask_in(4, rows, (name,))[0])

    def test_a_line_of_400_calls_that_asks_the_same_again(self):
        for name in ("way", "ways", "needed", "seen", "state"):
            for rows in (TWENTY_FOUR, SIX_APART, NONE_RIGHT_4):
                once = ask_in(4, rows, (name,))
                self.assertEqual(ask_in(4, rows, *[(name,)] * 375), once * 375)


if __name__ == "__main__":
    unittest.main()
