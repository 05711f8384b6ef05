import itertools
import unittest

from tests.examples import AXES_3, AXES_4, EIGHTEEN, TWENTY_FOUR
from tests.lines import LARGEST, ask, ask_in, look

LEAST_NUMBER = -2147483648
GREATEST_NUMBER = 2147483647


class Direction(unittest.TestCase):
    def test_numbered_from_0(self):
        given = ask(("begin", 3), *[("direction", row) for row in AXES_3 + [[1, 1, 1]]])
        self.assertEqual(given, [[0], [0], [1], [2], [3]])

    def test_each_row_of_numbers_from_minus_3_to_3_alone(self):
        for dimensions in (2, 3, 4):
            for row in itertools.product((-3, -1, 0, 2, 3), repeat=dimensions):
                answer = [0] if any(row) else [-22]
                self.assertEqual(ask(("begin", dimensions), ("direction", list(row)))[1], answer, row)

    def test_not_a_number_for_each_dimension(self):
        for dimensions in (2, 3, 4):
            for size in range(7):
                if size != dimensions:
                    for row in ([0] * size, [1] * size, [3, -3, 0, 1, 2, -1][:size], [LEAST_NUMBER] * size):
                        given = ask(("begin", dimensions), ("direction", row), ("sets",), ("directionis", 0))
                        self.assertEqual(given, [[0], [-22], [0], [-2]], row)

    def test_a_number_out_of_bounds_at_each_place(self):
        for dimensions in (2, 3, 4):
            for place in range(dimensions):
                for number in (4, -4, 5, -5, 256, -256, 1000000, -1000000, LEAST_NUMBER, GREATEST_NUMBER):
                    row = [1] * dimensions
                    row[place] = number
                    given = ask(("begin", dimensions), ("direction", row), ("directionis", 0))
                    self.assertEqual(given, [[0], [-22], [-2]], row)

    def test_numbers_out_of_bounds_that_come_to_little_together(self):
        for row in ([4, -4], [LEAST_NUMBER, GREATEST_NUMBER], [GREATEST_NUMBER, -GREATEST_NUMBER], [-4, 0], [0, 4]):
            self.assertEqual(ask(("begin", 2), ("direction", row))[1], [-22], row)

    def test_numbers_that_come_to_0_together_are_not_all_0(self):
        self.assertEqual(ask_in(2, [[1, -1]], ("directionis", 0)), [[2, 1, -1]])
        self.assertEqual(ask_in(4, [[3, -3, 2, -2]], ("directionis", 0)), [[4, 3, -3, 2, -2]])

    def test_along_one_that_there_is(self):
        for first, second in (
            ([1, 2, 3], [1, 2, 3]), ([1, 0, 0], [3, 0, 0]), ([0, 1, 1], [0, 2, 2]),
            ([2, 2, 0], [3, 3, 0]), ([0, 0, 2], [0, 0, -3]), ([2, -2, 2], [-3, 3, -3]),
        ):
            for one, other in ((first, second), (second, first)):
                given = ask_in(3, [one], ("direction", other), ("directionis", 0), ("directionis", 1))
                self.assertEqual(given, [[-17], [3] + one, [-2]])

    def test_turned_about(self):
        for rows in (TWENTY_FOUR, EIGHTEEN):
            turned = [("direction", [-number for number in row]) for row in rows]
            self.assertEqual(ask_in(4, rows, *turned), [[-17]] * len(rows))

    def test_along_any_one_of_several(self):
        rows = AXES_3 + [[1, 2, 3], [1, 1, 0]]
        for row in ([-2, 0, 0], [0, 3, 0], [0, 0, -1], [-1, -2, -3], [3, 3, 0]):
            self.assertEqual(ask_in(3, rows, ("direction", row), ("directionis", 5)), [[-17], [-2]])

    def test_alike_at_some_places_only(self):
        rows = [[1, 1, 0], [1, 1, 1], [2, 2, 1], [1, 1, -1], [1, 2, 3], [1, 3, 2], [-1, 2, 3], [1, -2, 3], [0, 2, 3]]
        given = ask_in(3, rows, *[("directionis", i) for i in range(len(rows))])
        self.assertEqual(given, [[3] + row for row in rows])

    def test_at_right_angles_is_not_along(self):
        self.assertEqual(ask_in(2, [[1, 0], [0, 1]], ("directionis", 1)), [[2, 0, 1]])
        self.assertEqual(ask_in(4, AXES_4, ("directionis", 3)), [[4, 0, 0, 0, 1]])

    def test_all_the_directions_of_the_plane(self):
        rows = []
        for row in itertools.product(range(-3, 4), repeat=2):
            if any(row) and not any(row[0] * other[1] == row[1] * other[0] for other in rows):
                rows.append(row)
        self.assertEqual(len(rows), 16)
        others = [row for row in itertools.product(range(-3, 4), repeat=2) if any(row)]
        self.assertEqual(ask_in(2, rows, *[("direction", list(row)) for row in others]), [[-17]] * len(others))

    def test_twenty_four_and_no_more(self):
        given = ask_in(
            4, TWENTY_FOUR, ("direction", [1, 2, 3, 0]), ("directionis", 23), ("directionis", 24),
            ("remove", 0), ("direction", [1, 2, 3, 0]), ("direction", [1, 2, 0, 3]), ("directionis", 23),
        )
        self.assertEqual(given, [[-28], [4, 1, -1, -1, -1], [-2], [23], [23], [-28], [4, 1, 2, 3, 0]])

    def test_of_two_refusals_the_one_told_first(self):
        along = ("direction", [-2, 0, 0, 0])
        self.assertEqual(ask_in(4, TWENTY_FOUR, along), [[-17]])
        for row in ([1, 0, 0], [2, 0, 0, 0, 0], [0, 0, 0, 0], [4, 0, 0, 0], [-4, 0, 0, 0], [], [GREATEST_NUMBER] * 4):
            self.assertEqual(ask_in(4, TWENTY_FOUR, ("direction", row)), [[-22]], row)
            self.assertEqual(ask_in(4, AXES_4, ("direction", row)), [[-22]], row)

    def test_a_refused_one_leaves_all_as_it_was(self):
        shown = ask_in(3, AXES_3, *look(3, 1))
        for row, answer in (([1, 0], -22), ([0, 0, 0], -22), ([1, 1, 4], -22), ([-3, 0, 0], -17)):
            self.assertEqual(ask_in(3, AXES_3, ("direction", row), *look(3, 1)), [[answer]] + shown)
        shown = ask_in(4, TWENTY_FOUR, ("sets",), ("directionis", 23), ("directionis", 24), ("of", 0))
        given = ask_in(
            4, TWENTY_FOUR, ("direction", [1, 2, 3, 0]),
            ("sets",), ("directionis", 23), ("directionis", 24), ("of", 0),
        )
        self.assertEqual(given, [[-28]] + shown)


class Remove(unittest.TestCase):
    def test_how_many_there_are_then(self):
        given = ask_in(3, AXES_3, ("remove", 1), ("remove", 0), ("remove", 0), ("remove", 0))
        self.assertEqual(given, [[2], [1], [0], [-2]])

    def test_those_behind_are_numbered_one_less(self):
        rows = AXES_3 + [[1, 2, 3], [-1, 1, 0]]
        for i in range(5):
            left = rows[:i] + rows[i + 1:]
            given = ask_in(3, rows, ("remove", i), *[("directionis", j) for j in range(5)])
            self.assertEqual(given, [[4]] + [[3] + row for row in left] + [[-2]])

    def test_none_such(self):
        self.assertEqual(ask(("begin", 2), ("remove", 0), ("remove", LARGEST)), [[0], [-2], [-2]])
        for i in (3, 4, 24, 2147483648, LARGEST - 1, LARGEST):
            shown = ask_in(3, AXES_3, *look(3, 1))
            self.assertEqual(ask_in(3, AXES_3, ("remove", i), *look(3, 1)), [[-2]] + shown)

    def test_what_is_removed_may_come_again_behind_all(self):
        given = ask_in(
            3, AXES_3, ("remove", 0), ("direction", [-1, 0, 0]), ("directionis", 2), ("direction", [1, 0, 0]),
        )
        self.assertEqual(given, [[2], [2], [3, -1, 0, 0], [-17]])

    def test_the_dimensions_stay_when_all_are_gone(self):
        given = ask_in(3, [[1, 0, 0]], ("remove", 0), ("sets",), ("direction", [1, 0]), ("direction", [1, 0, 1]))
        self.assertEqual(given, [[0], [0], [-22], [0]])


class DirectionIs(unittest.TestCase):
    def test_its_numbers_as_they_were_told(self):
        rows = [[3, -3], [0, -2], [-1, 0], [2, 3]]
        self.assertEqual(ask_in(2, rows, *[("directionis", i) for i in range(4)]), [[2] + row for row in rows])
        rows = [[-2, 2, 2], [0, 0, -3], [3, 0, 1]]
        self.assertEqual(ask_in(3, rows, *[("directionis", i) for i in range(3)]), [[3] + row for row in rows])
        rows = [[-2, 2, 2, 0], [0, 0, 0, -3]]
        self.assertEqual(ask_in(4, rows, *[("directionis", i) for i in range(2)]), [[4] + row for row in rows])

    def test_none_such(self):
        self.assertEqual(ask(("begin", 3), ("directionis", 0)), [[0], [-2]])
        for i in (3, 4, 24, 2147483648, LARGEST):
            self.assertEqual(ask_in(3, AXES_3, ("directionis", i), *look(3, 1))[0], [-2])

    def test_changes_nothing(self):
        once = ask_in(3, AXES_3, *look(3, 1))
        self.assertEqual(ask_in(3, AXES_3, *look(3, 1), *look(3, 1)), once + once)


class Right(unittest.TestCase):
    def test_at_right_angles(self):
        self.assertEqual(ask_in(2, [[1, 0], [0, 1]], ("right", 0, 1), ("right", 1, 0)), [[1, 0], [1, 0]])
        self.assertEqual(ask_in(2, [[2, 3], [-3, 2]], ("right", 0, 1), ("right", 1, 0)), [[1, 0], [1, 0]])
        self.assertEqual(ask_in(3, [[1, 1, -2], [1, 1, 1]], ("right", 0, 1)), [[1, 0]])
        self.assertEqual(ask_in(4, [[1, 2, 3, 0], [3, 0, -1, 2]], ("right", 1, 0)), [[1, 0]])

    def test_not_at_right_angles(self):
        rows = [[3, 3, 3, 3], [3, 3, 3, 2], [1, 0, 0, -2], [-1, 0, 0, -2]]
        given = ask_in(4, rows, ("right", 0, 1), ("right", 0, 2), ("right", 2, 0), ("right", 1, 3), ("right", 2, 3))
        self.assertEqual(given, [[0, 33], [0, -3], [0, -3], [0, -7], [0, 3]])

    def test_one_and_the_same(self):
        given = ask_in(4, [[3, -3, 3, -3], [0, 0, 0, 1]], ("right", 0, 0), ("right", 1, 1))
        self.assertEqual(given, [[0, 36], [0, 1]])

    def test_every_place_counts(self):
        rows = [[1, 1, 1, 1], [0, 0, 0, -2], [0, 0, 3, 0], [0, 1, 0, 0], [-1, 0, 0, 0]]
        given = ask_in(4, rows, *[("right", 0, j) for j in range(1, 5)])
        self.assertEqual(given, [[0, -2], [0, 3], [0, 1], [0, -1]])

    def test_none_such(self):
        self.assertEqual(ask(("begin", 2), ("right", 0, 0)), [[0], [-2]])
        for i in (3, 4, 24, 2147483648, LARGEST):
            given = ask_in(3, AXES_3, ("right", i, 0), ("right", 0, i), ("right", i, i), ("right", 2, 2))
            self.assertEqual(given, [[-2], [-2], [-2], [0, 1]])

    def test_with_the_new_numbers_after_a_remove(self):
        rows = [[1, 0], [1, 2], [0, 1]]
        self.assertEqual(ask_in(2, rows, ("right", 0, 1), ("remove", 1), ("right", 0, 1)), [[0, 1], [2], [1, 0]])


if __name__ == "__main__":
    unittest.main()
