import itertools
import unittest

from tests.examples import (
    AXES_3, AXES_4, EIGHTEEN, NONE_RIGHT_3, NONE_RIGHT_4, OTHER_SIX, PLANE, SIX_APART, TWENTY_FOUR,
    TWENTY_TWO, two_planes,
)
from tests.lines import ask, ask_in, look_all
from tests.model import Model


def first_by_trying_all(dimensions, rows):
    """In order: the least direction that two differ about is unmarked first."""
    model = Model(dimensions, rows)
    for marks in itertools.product((0, 1), repeat=len(rows)):
        marked = [i for i in range(len(rows)) if marks[i]]
        if model.fits(marked):
            return [len(marked)] + marked
    return [-33]


class Way(unittest.TestCase):
    def way(self, dimensions, rows):
        return ask_in(dimensions, rows, ("way",))[0]

    def test_no_directions(self):
        for dimensions in (2, 3, 4):
            self.assertEqual(self.way(dimensions, []), [0])

    def test_one_direction(self):
        for dimensions in (2, 3, 4):
            self.assertEqual(self.way(dimensions, [[1] * dimensions]), [0])

    def test_two_in_the_plane(self):
        self.assertEqual(self.way(2, [[1, 0], [0, 1]]), [1, 1])
        self.assertEqual(self.way(2, [[1, 3], [-3, 1]]), [1, 1])
        self.assertEqual(self.way(2, [[1, 0], [1, 1]]), [0])

    def test_the_whole_plane(self):
        self.assertEqual(self.way(2, PLANE), [8] + list(range(1, 16, 2)))
        self.assertEqual(self.way(2, PLANE[::2] + PLANE[1::2]), [8] + list(range(8, 16)))

    def test_one_complete_set(self):
        self.assertEqual(self.way(3, AXES_3), [1, 2])
        self.assertEqual(self.way(4, AXES_4), [1, 3])

    def test_the_first_where_several_fit(self):
        # {0}, {1, 3}, {1, 4}, {2, 3} and {2, 4} fit: the one that marks fewest is the last of all.
        rows = [[0, 0, 1], [1, 0, 0], [0, 1, 0], [1, 1, 0], [1, -1, 0]]
        self.assertEqual(self.way(3, rows), [2, 2, 4])
        self.assertEqual(self.way(3, rows[1:] + rows[:1]), [1, 4])
        self.assertEqual(self.way(3, [rows[1], rows[0]] + rows[2:]), [2, 2, 4])
        self.assertEqual(self.way(3, [rows[1], rows[2], rows[0]] + rows[3:]), [1, 2])
        self.assertEqual(self.way(3, [rows[1], rows[3], rows[2], rows[4], rows[0]]), [1, 4])

    def test_a_mark_in_one_plane_shuts_the_other_out(self):
        # The two pairs of the one plane have a mark each, or those of the other.
        rows = two_planes(2)
        self.assertEqual(self.way(4, rows), [2, 5, 7])
        self.assertEqual(self.way(4, [rows[i] for i in (0, 4, 1, 5, 2, 6, 3, 7)]), [2, 3, 7])
        self.assertEqual(self.way(4, [rows[i] for i in (0, 4, 5, 6, 7, 1, 2, 3)]), [2, 5, 7])

    def test_right_angles_outside_complete_sets_bear_on_it(self):
        # The last of the second complete set is at right angles to the last of the first.
        rows = AXES_3 + [[1, 1, 1], [1, 1, -2], [1, -1, 0]]
        self.assertEqual(ask_in(3, rows, ("sets",), ("right", 2, 5)), [[2], [1, 0]])
        self.assertEqual(self.way(3, rows), [2, 2, 4])
        rows = AXES_3 + [[1, 1, 1], [1, -1, 0], [1, 1, -2]]
        self.assertEqual(self.way(3, rows), [2, 2, 5])

    def test_in_no_complete_set(self):
        for at in range(4):
            rows = AXES_3[:at] + [[1, 2, 3]] + AXES_3[at:]
            self.assertEqual(self.way(3, rows), [1, 3 if at < 3 else 2])

    def test_at_right_angles_to_many(self):
        rows = [[0, 0, 1]] + [[a, b, 0] for a, b in PLANE]
        self.assertEqual(self.way(3, rows), [8] + list(range(2, 17, 2)))
        self.assertEqual(self.way(3, rows[1:] + rows[:1]), [1, 16])

    def test_complete_sets_apart(self):
        self.assertEqual(self.way(4, SIX_APART), [6, 3, 7, 11, 15, 19, 23])
        self.assertEqual(self.way(4, SIX_APART[::-1]), [6, 3, 7, 11, 15, 19, 23])

    def test_no_two_at_right_angles(self):
        self.assertEqual(self.way(3, NONE_RIGHT_3), [0])
        self.assertEqual(self.way(4, NONE_RIGHT_4), [0])

    def test_against_all_that_can_be_tried(self):
        rows_3 = AXES_3 + [[1, 1, 0], [1, -1, 0], [1, 0, 1], [1, 0, -1], [0, 1, 1], [0, 1, -1]]
        for dimensions, rows in ((2, PLANE[:9]), (3, rows_3), (4, TWENTY_FOUR[:9]), (4, TWENTY_FOUR[7:16]),
                                 (4, EIGHTEEN[:9]), (4, EIGHTEEN[9:])):
            for order in (rows, rows[::-1], rows[::2] + rows[1::2], rows[1::2] + rows[::2]):
                self.assertEqual(self.way(dimensions, order), first_by_trying_all(dimensions, order), order)


class NothingFits(unittest.TestCase):
    def test_eighteen_in_nine(self):
        for rows in (EIGHTEEN, EIGHTEEN[::-1], EIGHTEEN[5:] + EIGHTEEN[:5]):
            self.assertEqual(ask_in(4, rows, ("way",), ("ways",)), [[-33], [0]])

    def test_twenty_four(self):
        for step in (1, 5, 7, 11):
            rows = [TWENTY_FOUR[i * step % 24] for i in range(24)]
            self.assertEqual(ask_in(4, rows, ("way",), ("ways",)), [[-33], [0]])

    def test_eighteen_and_more(self):
        for count in range(1, 7):
            rows = OTHER_SIX[:count] + EIGHTEEN
            self.assertEqual(ask_in(4, rows, ("way",)), [[-33]])

    def test_only_because_of_two_at_right_angles_in_no_complete_set_together(self):
        for rows in (TWENTY_TWO, TWENTY_TWO[::-1]):
            self.assertEqual(ask_in(4, rows, ("way",), ("ways",)), [[-33], [0]])

    def test_beside_others_that_may_be_marked(self):
        rows = [(1, 2, 3, 1), (1, 2, 3, 2), (1, 3, 2, 1)] + EIGHTEEN + [(3, 1, 2, 1), (3, 2, 1, 1)]
        self.assertEqual(ask_in(4, rows, ("way",), ("ways",)), [[-33], [0]])

    def test_each_of_the_eighteen_taken_out_alone(self):
        for i in range(18):
            rows = EIGHTEEN[:i] + EIGHTEEN[i + 1:]
            given = ask_in(4, EIGHTEEN, ("way",), ("remove", i), ("way",), ("ways",))
            first = next(Model(4, rows).fitting())
            self.assertEqual(given, [[-33], [17], [len(first)] + first, [12]])

    def test_changes_nothing(self):
        shown = ask_in(4, EIGHTEEN, *look_all(18, 9))
        self.assertEqual(ask_in(4, EIGHTEEN, ("way",), *look_all(18, 9)), [[-33]] + shown)

    def test_before_a_begin_not_begun_is_told(self):
        self.assertEqual(ask(("way",), ("begin", 1), ("way",)), [[-11], [-22], [-11]])


class AfterChanges(unittest.TestCase):
    def test_it_follows_each_change(self):
        given = ask_in(
            3, AXES_3, ("way",), ("direction", [1, 1, 1]), ("way",), ("remove", 0), ("way",), ("remove", 1), ("way",),
            ("direction", [0, 0, 1]), ("direction", [1, 0, 0]), ("way",), ("begin", 3), ("way",),
            ("direction", [1, 1, 0]), ("way",),
        )
        self.assertEqual(given, [
            [1, 2], [3], [1, 2], [3], [0], [2], [0], [2], [3], [1, 3], [0], [0], [0], [0],
        ])

    def test_what_is_refused_does_not_change_it(self):
        given = ask_in(
            3, AXES_3, ("way",), ("direction", [0, 0, -1]), ("way",), ("direction", [1, 1]), ("way",),
            ("remove", 3), ("way",), ("begin", 5), ("way",), ("fits", [1, 0]), ("way",), ("shows", [1]), ("way",),
            ("needed",), ("way",),
        )
        self.assertEqual(given, [
            [1, 2], [-17], [1, 2], [-22], [1, 2], [-2], [1, 2], [-22], [1, 2], [-22], [1, 2], [-22], [1, 2],
            [-6], [1, 2],
        ])


if __name__ == "__main__":
    unittest.main()
