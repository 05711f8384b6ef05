import unittest

from tests.examples import (
    AXES_3, AXES_4, EIGHTEEN, NONE_RIGHT_4, OTHER_SIX, PLANE, SIX_APART, THOUSAND, TWENTY_FOUR,
    TWENTY_TWO, two_planes,
)
from tests.lines import ask, ask_in, look_all
from tests.model import Model

# At right angles to some of the eighteen, and to none of them; in no complete set either way.
LONE = [(1, 2, 3, 0), (1, 2, 3, 1)]


class Needed(unittest.TestCase):
    def test_each_of_the_eighteen(self):
        for rows in (EIGHTEEN, EIGHTEEN[::-1], EIGHTEEN[7:] + EIGHTEEN[:7]):
            self.assertEqual(ask_in(4, rows, ("needed",)), [[18] + list(range(18))])

    def test_one_beside_them_in_no_complete_set(self):
        for lone in LONE:
            for at in range(19):
                rows = EIGHTEEN[:at] + [lone] + EIGHTEEN[at:]
                given = ask_in(4, rows, ("of", at), ("sets",), ("needed",))
                self.assertEqual(given, [[0], [9], [18] + [i for i in range(19) if i != at]])

    def test_several_beside_them_in_no_complete_set(self):
        rows = [LONE[0]] + EIGHTEEN + [LONE[1], (3, 1, 2, 1)]
        self.assertEqual(ask_in(4, rows, ("sets",), ("needed",)), [[9], [18] + list(range(1, 19))])

    def test_none_alone(self):
        self.assertEqual(ask_in(4, TWENTY_FOUR, ("needed",)), [[0]])
        self.assertEqual(ask_in(4, TWENTY_FOUR[::-1], ("needed",)), [[0]])
        self.assertEqual(ask_in(4, EIGHTEEN + OTHER_SIX, ("needed",)), [[0]])

    def test_some_but_not_others(self):
        # The others are in complete sets, too; what is needed with few of them isn't with more.
        still = [
            list(range(18)),
            list(range(18)),
            [0, 1, 2, 3, 4, 5, 7, 8, 9, 10, 11, 12, 13, 14, 15, 16, 17],
            [0, 3, 4, 5, 7, 8, 9, 10, 11, 12, 13, 14, 15, 16, 17],
            [0, 3, 4, 5, 8, 12, 13, 14, 16],
        ]
        for count, needed in enumerate(still, start=1):
            rows = EIGHTEEN + OTHER_SIX[:count]
            self.assertEqual(ask_in(4, rows, ("needed",)), [[len(needed)] + needed])
            self.assertEqual(Model(4, rows).answer("needed"), [len(needed)] + needed)
            rows = OTHER_SIX[:count] + EIGHTEEN
            self.assertEqual(ask_in(4, rows, ("needed",)), [[len(needed)] + [i + count for i in needed]])

    def test_where_no_complete_sets_show_that_nothing_fits(self):
        self.assertEqual(ask_in(4, TWENTY_TWO, ("seen",), ("needed",)), [[0], [22] + list(range(22))])
        # With two in no complete set beside them there are twenty-four.
        rows = [(1, 1, 0, 0)] + TWENTY_TWO + [(1, 0, 0, 1)]
        given = ask_in(4, rows, ("state",), ("seen",), ("needed",))
        self.assertEqual(given, [[4, 24, 48], [0], [22] + list(range(1, 23))])

    def test_without_each_that_is_needed_some_way_fits_and_without_the_others_none(self):
        rows = EIGHTEEN + OTHER_SIX[:5]
        needed = ask_in(4, rows, ("needed",))[0][1:]
        for i in range(23):
            given = ask_in(4, rows, ("remove", i), ("way",), ("needed",))
            self.assertEqual(given[1] != [-33], i in needed)
            self.assertEqual(given[2] == [-6], i in needed)

    def test_it_follows_each_change(self):
        given = ask_in(
            4, EIGHTEEN, ("needed",), ("remove", 0), ("needed",), ("direction", list(EIGHTEEN[0])), ("needed",),
            ("direction", [1, 2, 3, 1]), ("needed",), ("remove", 3), ("needed",), ("begin", 4), ("needed",),
        )
        self.assertEqual(given, [
            [18] + list(range(18)), [17], [-6], [17], [18] + list(range(18)),
            [18], [18] + list(range(18)), [18], [-6], [0], [-6],
        ])


class SomeWayFits(unittest.TestCase):
    def test_few_directions(self):
        for dimensions in (2, 3, 4):
            self.assertEqual(ask_in(dimensions, [], ("needed",)), [[-6]])
            self.assertEqual(ask_in(dimensions, [[1] * dimensions], ("needed",)), [[-6]])
        self.assertEqual(ask_in(2, [[1, 0], [0, 1]], ("needed",)), [[-6]])
        self.assertEqual(ask_in(3, AXES_3, ("needed",)), [[-6]])
        self.assertEqual(ask_in(4, AXES_4, ("needed",)), [[-6]])

    def test_many_directions(self):
        for dimensions, rows in ((2, PLANE), (3, THOUSAND), (4, SIX_APART), (4, NONE_RIGHT_4), (4, two_planes(6))):
            self.assertEqual(ask_in(dimensions, rows, ("needed",)), [[-6]])

    def test_too_many_ways_to_count_are_some(self):
        self.assertEqual(ask_in(4, SIX_APART, ("ways",), ("needed",)), [[-75], [-6]])

    def test_each_of_the_eighteen_taken_out_alone(self):
        for i in range(18):
            self.assertEqual(ask_in(4, EIGHTEEN[:i] + EIGHTEEN[i + 1:], ("needed",)), [[-6]])

    def test_changes_nothing(self):
        shown = ask_in(3, AXES_3, *look_all(3, 1))
        self.assertEqual(ask_in(3, AXES_3, ("needed",), *look_all(3, 1)), [[-6]] + shown)

    def test_before_a_begin_not_begun_is_told(self):
        self.assertEqual(ask(("needed",), ("begin", 0), ("needed",)), [[-11], [-22], [-11]])


if __name__ == "__main__":
    unittest.main()
