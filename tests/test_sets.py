import itertools
import unittest

from tests.examples import AXES_3, AXES_4, EIGHTEEN, NINE_BY_NUMBER, TWENTY_FOUR
from tests.lines import LARGEST, ask, ask_in, look


def sets_of(dimensions, rows):
    """All complete sets that a space with these directions tells, in its order."""
    count = ask_in(dimensions, rows, ("sets",))[0][0]
    given = ask_in(dimensions, rows, *[("set", k) for k in range(count + 1)])
    if given.pop() != [-2]:
        raise AssertionError("there is one more than told")
    return given


def by_trying_all(dimensions, rows):
    found = []
    for chosen in itertools.combinations(range(len(rows)), dimensions):
        pairs = itertools.combinations(chosen, 2)
        if all(sum(a * b for a, b in zip(rows[i], rows[j])) == 0 for i, j in pairs):
            found.append([dimensions] + list(chosen))
    return found


class FewDirections(unittest.TestCase):
    def test_none(self):
        for dimensions in (2, 3, 4):
            given = ask_in(dimensions, [], ("sets",), ("set", 0), ("of", 0))
            self.assertEqual(given, [[0], [-2], [-2]])

    def test_one(self):
        for dimensions in (2, 3, 4):
            given = ask_in(dimensions, [[1] * dimensions], ("sets",), ("set", 0), ("of", 0), ("of", 1))
            self.assertEqual(given, [[0], [-2], [0], [-2]])

    def test_one_short_of_a_complete_set(self):
        self.assertEqual(ask_in(3, AXES_3[:2], ("sets",), ("of", 0), ("of", 1)), [[0], [0], [0]])
        self.assertEqual(ask_in(4, AXES_4[:3], ("sets",), ("of", 0), ("of", 2)), [[0], [0], [0]])

    def test_two_in_the_plane_at_right_angles(self):
        for rows in ([[1, 0], [0, 1]], [[1, 3], [-3, 1]], [[2, -3], [-3, -2]]):
            given = ask_in(2, rows, ("sets",), ("set", 0), ("set", 1), ("of", 0), ("of", 1), ("of", 2))
            self.assertEqual(given, [[1], [2, 0, 1], [-2], [1, 0], [1, 0], [-2]])

    def test_two_in_the_plane_not_at_right_angles(self):
        given = ask_in(2, [[1, 0], [1, 1]], ("sets",), ("set", 0), ("of", 0), ("of", 1))
        self.assertEqual(given, [[0], [-2], [0], [0]])

    def test_just_a_complete_set(self):
        for dimensions, rows in ((3, AXES_3), (4, AXES_4)):
            for order in itertools.permutations(rows):
                self.assertEqual(sets_of(dimensions, order), [[dimensions] + list(range(dimensions))])

    def test_not_each_two_at_right_angles(self):
        # Each stands at right angles to its neighbours, but the first and the last don't.
        self.assertEqual(sets_of(3, [[1, 0, 0], [0, 1, 0], [1, 0, 1]]), [])
        self.assertEqual(sets_of(4, [[1, 0, 0, 0], [0, 1, 0, 0], [0, 0, 1, 0], [1, 0, 0, 1]]), [])
        self.assertEqual(sets_of(4, [[1, 0, 0, 0], [0, 1, 0, 0], [0, 0, 1, 0], [0, 1, 0, 1]]), [])
        self.assertEqual(sets_of(4, [[1, 0, 0, 0], [0, 1, 0, 0], [0, 0, 1, 0], [0, 0, 1, 1]]), [])


class Order(unittest.TestCase):
    def test_rising_within_and_the_lesser_first(self):
        rows = [[0, 0, 1], [1, 1, 0], [1, 0, 0], [1, -1, 0], [0, 1, 0]]
        self.assertEqual(sets_of(3, rows), [[3, 0, 1, 3], [3, 0, 2, 4]])

    def test_where_two_first_differ_decides(self):
        # The set that is whole first is told last.
        rows = [[1, 0], [2, 1], [1, -2], [0, 1], [1, 1], [1, -1]]
        self.assertEqual(sets_of(2, rows), [[2, 0, 3], [2, 1, 2], [2, 4, 5]])
        rows = [[1, 0, 0], [0, 1, 1], [0, 1, -1], [0, 1, 0], [0, 0, 1], [0, 1, 2], [0, 2, -1]]
        self.assertEqual(sets_of(3, rows), [[3, 0, 1, 2], [3, 0, 3, 4], [3, 0, 5, 6]])
        rows = rows[1:] + rows[:1]
        self.assertEqual(sets_of(3, rows), [[3, 0, 1, 6], [3, 2, 3, 6], [3, 4, 5, 6]])

    def test_a_later_direction_may_make_an_earlier_set(self):
        rows = [[1, 0], [1, 1], [1, -1]]
        given = ask_in(2, rows, ("set", 0), ("of", 0), ("direction", [0, 1]), *look(4, 2)[-8:])
        self.assertEqual(given[:3], [[2, 1, 2], [0], [3]])
        self.assertEqual(given[3:], [[2, 0, 3], [2, 1, 2], [-2], [1, 0], [1, 1], [1, 1], [1, 0], [-2]])


class ManyDirections(unittest.TestCase):
    def test_eighteen_in_nine(self):
        self.assertEqual(len(EIGHTEEN), 18)
        self.assertEqual(sets_of(4, EIGHTEEN), [[4] + chosen for chosen in NINE_BY_NUMBER])
        for i, answer in enumerate(ask_in(4, EIGHTEEN, *[("of", i) for i in range(18)])):
            self.assertEqual(answer, [2] + [k for k in range(9) if i in NINE_BY_NUMBER[k]])

    def test_twenty_four_in_twenty_four(self):
        self.assertEqual(len(TWENTY_FOUR), 24)
        found = sets_of(4, TWENTY_FOUR)
        self.assertEqual(len(found), 24)
        self.assertEqual(found, by_trying_all(4, TWENTY_FOUR))
        self.assertEqual(found, sorted(found))
        for i, answer in enumerate(ask_in(4, TWENTY_FOUR, *[("of", i) for i in range(24)])):
            self.assertEqual(answer, [4] + [k for k in range(24) if i in found[k][1:]])

    def test_twenty_four_in_other_orders(self):
        for step in (5, 7, 11, 13):
            rows = [TWENTY_FOUR[i * step % 24] for i in range(24)]
            self.assertEqual(sets_of(4, rows), by_trying_all(4, rows))

    def test_the_whole_plane(self):
        rows = [(1, 0), (0, 1)] + [(a, b) for a in (1, 2, 3) for b in (-3, -2, -1, 1, 2, 3) if (a, b) not in (
            (2, 2), (2, -2), (3, 3), (3, -3))]
        self.assertEqual(len(rows), 16)
        self.assertEqual(len(sets_of(2, rows)), 8)
        self.assertEqual(sets_of(2, rows), by_trying_all(2, rows))

    def test_in_no_complete_set(self):
        rows = AXES_3[:1] + [[1, 2, 3]] + AXES_3[1:]
        given = ask_in(3, rows, ("sets",), ("set", 0), *[("of", i) for i in range(5)])
        self.assertEqual(given, [[1], [3, 0, 2, 3], [1, 0], [0], [1, 0], [1, 0], [-2]])

    def test_at_right_angles_to_some_but_in_no_complete_set(self):
        rows = AXES_3 + [[1, 1, 0]]
        self.assertEqual(ask_in(3, rows, ("right", 2, 3), ("sets",), ("of", 3)), [[1, 0], [1], [0]])

    def test_at_right_angles_to_many(self):
        flat = [(1, 0), (0, 1), (1, 1), (1, -1), (1, 2), (2, -1), (2, 1), (1, -2), (1, 3), (3, -1), (3, 1), (1, -3)]
        rows = [[0, 0, 1]] + [[a, b, 0] for a, b in flat]
        found = [[3, 0, i, i + 1] for i in range(1, 13, 2)]
        self.assertEqual(sets_of(3, rows), found)
        given = ask_in(3, rows, *[("right", 0, i) for i in range(1, 13)], *[("of", i) for i in range(13)])
        self.assertEqual(given[:12], [[1, 0]] * 12)
        self.assertEqual(given[12:], [[6, 0, 1, 2, 3, 4, 5]] + [[1, (i - 1) // 2] for i in range(1, 13)])

    def test_at_right_angles_to_many_and_yet_in_no_complete_set(self):
        rows = [[0, 0, 1], [1, 0, 0], [1, 1, 0], [1, 2, 0], [2, 1, 0], [3, 1, 0]]
        given = ask_in(3, rows, ("sets",), ("of", 0), *[("right", 0, i) for i in range(1, 6)])
        self.assertEqual(given, [[0], [0]] + [[1, 0]] * 5)


class AfterChanges(unittest.TestCase):
    def test_after_a_remove_they_are_told_with_the_new_numbers(self):
        rows = [[1, 2, 3], [0, 0, 1], [1, 1, 0], [1, 0, 0], [1, -1, 0], [0, 1, 0]]
        self.assertEqual(sets_of(3, rows), [[3, 1, 2, 4], [3, 1, 3, 5]])
        given = ask_in(3, rows, ("sets",), ("remove", 0), *look(5, 2)[-10:])
        self.assertEqual(given[:2], [[2], [5]])
        self.assertEqual(given[2:], [[2], [3, 0, 1, 3], [3, 0, 2, 4], [-2],
                                     [2, 0, 1], [1, 0], [1, 1], [1, 0], [1, 1], [-2]])

    def test_a_remove_takes_its_complete_sets_along(self):
        rows = [[0, 0, 1], [1, 1, 0], [1, 0, 0], [1, -1, 0], [0, 1, 0]]
        given = ask_in(3, rows, ("sets",), ("remove", 1), ("sets",), ("set", 0), ("set", 1), ("of", 0), ("of", 2))
        self.assertEqual(given, [[2], [4], [1], [3, 0, 1, 3], [-2], [1, 0], [0]])

    def test_each_of_the_eighteen_taken_out_alone(self):
        for i in range(18):
            rows = EIGHTEEN[:i] + EIGHTEEN[i + 1:]
            shown = ask_in(4, rows, *look(17, 7))
            given = ask_in(4, EIGHTEEN, ("sets",), ("remove", i), *look(17, 7))
            self.assertEqual(given, [[9], [17]] + shown)
            self.assertEqual(sets_of(4, rows), by_trying_all(4, rows))
            self.assertEqual(len(sets_of(4, rows)), 7)

    def test_out_and_in_again(self):
        given = ask_in(
            3, AXES_3, ("set", 0), ("remove", 0), ("sets",), ("set", 0), ("of", 0),
            ("direction", [-2, 0, 0]), ("sets",), ("set", 0), ("of", 2),
        )
        self.assertEqual(given, [[3, 0, 1, 2], [2], [0], [-2], [0], [2], [1], [3, 0, 1, 2], [1, 0]])

    def test_none_left_after_a_new_begin(self):
        given = ask_in(3, AXES_3, ("sets",), ("begin", 3), ("sets",), ("set", 0), ("of", 0))
        self.assertEqual(given, [[1], [0], [0], [-2], [-2]])


class NoneSuch(unittest.TestCase):
    def test_no_such_complete_set(self):
        for k in (1, 2, 3, 2147483648, LARGEST - 1, LARGEST):
            shown = ask_in(3, AXES_3, *look(3, 1))
            self.assertEqual(ask_in(3, AXES_3, ("set", k), *look(3, 1)), [[-2]] + shown)
        self.assertEqual(ask_in(4, EIGHTEEN, ("set", 8), ("set", 9)), [[4] + NINE_BY_NUMBER[8], [-2]])

    def test_no_such_direction(self):
        for i in (3, 4, 24, 2147483648, LARGEST - 1, LARGEST):
            shown = ask_in(3, AXES_3, *look(3, 1))
            self.assertEqual(ask_in(3, AXES_3, ("of", i), *look(3, 1)), [[-2]] + shown)

    def test_a_direction_is_no_complete_set(self):
        # Four directions in one complete set, and three directions in none.
        self.assertEqual(ask_in(3, AXES_3 + [[1, 1, 1]], ("set", 0), ("set", 3), ("of", 3)), [[3, 0, 1, 2], [-2], [0]])
        self.assertEqual(ask_in(3, [[1, 1, 1], [1, 2, 3]], ("set", 0), ("of", 1)), [[-2], [0]])

    def test_before_a_begin_not_begun_is_told(self):
        self.assertEqual(ask(("set", 0), ("of", 0), ("sets",)), [[-11]] * 3)


if __name__ == "__main__":
    unittest.main()
