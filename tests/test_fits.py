import itertools
import unittest

from tests.examples import (
    AXES_3, AXES_4, EIGHTEEN, NONE_RIGHT_3, NONE_RIGHT_4, ONE_OF_EACH, PLANE, TWENTY_FOUR, TWENTY_TWO, two_planes,
)
from tests.lines import LARGEST, ask, ask_in, look_all
from tests.model import Model

FIVE = [[0, 0, 1], [1, 0, 0], [0, 1, 0], [1, 1, 0], [1, -1, 0]]


def taken(dimensions, rows):
    """All rising rows of directions that fit, as the program says."""
    numbers = range(len(rows))
    tried = [list(row) for size in range(len(rows) + 1) for row in itertools.combinations(numbers, size)]
    found = []
    for start in range(0, len(tried), 300):
        some = tried[start:start + 300]
        given = ask_in(dimensions, rows, *[("fits", row) for row in some])
        found += [row for row, answer in zip(some, given) if answer == [1]]
        if not all(answer in ([0], [1]) for answer in given):
            raise AssertionError("a rising row is refused")
    return found


class Fits(unittest.TestCase):
    def test_no_directions(self):
        for dimensions in (2, 3, 4):
            self.assertEqual(ask_in(dimensions, [], ("fits", []), ("fits", [0])), [[1], [-22]])

    def test_one_direction(self):
        for dimensions in (2, 3, 4):
            given = ask_in(dimensions, [[1] * dimensions], ("fits", []), ("fits", [0]), ("fits", [1]))
            self.assertEqual(given, [[1], [1], [-22]])

    def test_two_in_the_plane_at_right_angles(self):
        given = ask_in(2, [[1, 2], [-2, 1]], ("fits", []), ("fits", [0]), ("fits", [1]), ("fits", [0, 1]))
        self.assertEqual(given, [[0], [1], [1], [0]])

    def test_two_in_the_plane_not_at_right_angles(self):
        given = ask_in(2, [[1, 2], [2, 1]], ("fits", []), ("fits", [0]), ("fits", [1]), ("fits", [0, 1]))
        self.assertEqual(given, [[1], [1], [1], [1]])

    def test_just_one_of_a_complete_set(self):
        self.assertEqual(taken(3, AXES_3), [[0], [1], [2]])
        self.assertEqual(taken(4, AXES_4), [[0], [1], [2], [3]])

    def test_one_of_each_complete_set(self):
        self.assertEqual(taken(3, FIVE), [[0], [1, 3], [1, 4], [2, 3], [2, 4]])
        self.assertEqual(taken(4, two_planes(2)), [
            [0, 2], [0, 3], [1, 2], [1, 3], [4, 6], [4, 7], [5, 6], [5, 7],
        ])

    def test_never_two_at_right_angles_even_where_no_complete_set_has_both(self):
        # 3 stands in no complete set, at right angles to 2 alone.
        self.assertEqual(taken(3, AXES_3 + [[1, 1, 0]]), [[0], [1], [2], [0, 3], [1, 3]])
        # Two at right angles are no complete set here.
        self.assertEqual(taken(3, AXES_3[:2]), [[], [0], [1]])
        self.assertEqual(taken(4, AXES_4[:3]), [[], [0], [1], [2]])

    def test_just_one_of_each_complete_set_but_two_at_right_angles(self):
        for row in ONE_OF_EACH:
            for chosen in Model(4, TWENTY_TWO).complete():
                self.assertEqual(len(set(chosen) & set(row)), 1)
            self.assertEqual(ask_in(4, TWENTY_TWO, ("right", 1, 9), ("fits", row)), [[1, 0], [0]])

    def test_in_no_complete_set(self):
        self.assertEqual(taken(3, [[1, 2, 3]] + AXES_3), [[1], [2], [3], [0, 1], [0, 2], [0, 3]])

    def test_no_two_at_right_angles_at_all(self):
        for dimensions, rows in ((3, NONE_RIGHT_3), (4, NONE_RIGHT_4)):
            given = ask_in(
                dimensions, rows,
                ("fits", []), ("fits", [23]), ("fits", list(range(24))), ("fits", list(range(1, 24, 3))),
            )
            self.assertEqual(given, [[1]] * 4)

    def test_whole_spaces_against_the_definition(self):
        for dimensions, rows in ((2, PLANE[:10]), (3, FIVE + [[1, 2, 0], [2, -1, 0], [1, 1, 1], [1, 0, 1]]),
                                 (4, TWENTY_FOUR[:10]), (4, EIGHTEEN[:9]), (4, TWENTY_FOUR[12:21])):
            model = Model(dimensions, rows)
            numbers = range(len(rows))
            expected = [
                list(row) for size in range(len(rows) + 1) for row in itertools.combinations(numbers, size)
                if model.fits(row)
            ]
            self.assertEqual(taken(dimensions, rows), expected)

    def test_eighteen_in_nine(self):
        # Without its first direction there are four that fit; with it no four do.
        left = EIGHTEEN[1:]
        self.assertEqual(ask_in(4, left, ("way",), ("fits", [7, 8, 10, 12])), [[4, 7, 8, 10, 12], [1]])
        self.assertEqual(ask_in(4, EIGHTEEN, ("fits", [8, 9, 11, 13]), ("fits", [0, 8, 9, 11, 13])), [[0], [0]])
        self.assertEqual(ask_in(4, EIGHTEEN, ("fits", []), ("fits", list(range(18)))), [[0], [0]])

    def test_with_the_new_numbers_after_a_remove(self):
        given = ask_in(
            3, [[1, 2, 3]] + AXES_3, ("fits", [0, 3]), ("remove", 0), ("fits", [0, 3]), ("fits", [0]), ("fits", [0, 2]),
            ("remove", 0), ("fits", []), ("fits", [0]), ("fits", [0, 1]),
        )
        self.assertEqual(given, [[1], [3], [-22], [1], [0], [2], [1], [1], [0]])

    def test_after_one_more_direction(self):
        given = ask_in(3, AXES_3[:2], ("fits", []), ("direction", [0, 0, 2]), ("fits", []), ("fits", [2]))
        self.assertEqual(given, [[1], [2], [0], [1]])


class NotAsTold(unittest.TestCase):
    def refused(self, dimensions, rows, row):
        shown = ask_in(dimensions, rows, *look_all(len(rows), 1))
        given = ask_in(dimensions, rows, ("fits", row), *look_all(len(rows), 1))
        self.assertEqual(given, [[-22]] + shown, row)

    def test_not_rising(self):
        for row in ([1, 0], [2, 0], [0, 2, 1], [2, 1, 0], [1, 2, 0], [0, 1, 2, 0], [1, 0, 2]):
            self.refused(3, AXES_3 + [[1, 1, 0]], row)

    def test_the_same_twice(self):
        for row in ([0, 0], [2, 2], [0, 1, 1], [0, 0, 1], [1, 1, 1], [0] * 30, [3, 3]):
            self.refused(3, AXES_3 + [[1, 1, 0]], row)

    def test_one_that_there_is_not(self):
        for row in ([3], [4], [0, 3], [0, 1, 2, 3], [24], [LARGEST], [0, LARGEST], [LARGEST - 1, LARGEST]):
            self.refused(3, AXES_3, row)

    def test_both_at_once(self):
        for row in ([3, 0], [LARGEST, LARGEST], [LARGEST, 0], [3, 3], [0, LARGEST, 1]):
            self.refused(3, AXES_3, row)

    def test_the_last_that_there_is_and_the_first_that_there_is_not(self):
        for rows in (EIGHTEEN, TWENTY_FOUR, NONE_RIGHT_4):
            count = len(rows)
            self.assertNotEqual(ask_in(4, rows, ("fits", [count - 1])), [[-22]])
            self.assertEqual(ask_in(4, rows, ("fits", [count])), [[-22]])
            self.assertEqual(ask_in(4, rows, ("fits", list(range(count + 1)))), [[-22]])

    def test_the_longest_row(self):
        self.assertEqual(ask_in(4, NONE_RIGHT_4, ("fits", list(range(30))), ("fits", list(range(24)))), [[-22], [1]])

    def test_refused_even_where_two_are_at_right_angles(self):
        self.assertEqual(ask_in(3, AXES_3, ("fits", [1, 0]), ("fits", [0, 1, 3])), [[-22], [-22]])

    def test_before_a_begin_not_begun_is_told(self):
        self.assertEqual(ask(("fits", []), ("fits", [1, 0]), ("fits", [LARGEST])), [[-11]] * 3)


if __name__ == "__main__":
    unittest.main()
