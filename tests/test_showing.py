import itertools
import unittest

from tests.examples import (
    AXES_3, AXES_4, EIGHTEEN, NONE_RIGHT_3, NONE_RIGHT_4, OTHER_SIX, PLANE, SIX_APART, THOUSAND, TWENTY_FOUR,
    TWENTY_TWO, WITH_SETS_999, WITH_SETS_1000, WITH_SETS_1001, two_planes,
)
from tests.lines import LARGEST, ask, ask_in, look_all
from tests.model import Model

# With the other six beside them: the complete sets that have none of these.
NINE_OF_24 = [k for k, chosen in enumerate(Model(4, EIGHTEEN + OTHER_SIX).complete()) if max(chosen) < 18]


def rows_of_sets(count):
    return [list(row) for size in range(count + 1) for row in itertools.combinations(range(count), size)]


def shown(dimensions, rows, tried):
    """Those of the rows of complete sets that show it, as the program says."""
    found = []
    for start in range(0, len(tried), 300):
        some = tried[start:start + 300]
        given = ask_in(dimensions, rows, *[("shows", row) for row in some])
        if not all(answer in ([0], [1]) for answer in given):
            raise AssertionError("a rising row is refused")
        found += [row for row, answer in zip(some, given) if answer == [1]]
    return found


class Shows(unittest.TestCase):
    def test_no_complete_sets(self):
        for dimensions in (2, 3, 4):
            given = ask_in(dimensions, [], ("shows", []), ("shows", [0]))
            self.assertEqual(given, [[0], [-22]])
            given = ask_in(dimensions, [[1] * dimensions], ("shows", []), ("shows", [0]))
            self.assertEqual(given, [[0], [-22]])

    def test_one_complete_set(self):
        for dimensions, rows in ((2, PLANE[:2]), (3, AXES_3), (4, AXES_4)):
            given = ask_in(dimensions, rows, ("shows", []), ("shows", [0]), ("shows", [1]))
            self.assertEqual(given, [[0], [0], [-22]])

    def test_the_nine_of_the_eighteen_and_no_fewer(self):
        self.assertEqual(shown(4, EIGHTEEN, rows_of_sets(9)), [list(range(9))])

    def test_nine_among_more(self):
        rows = EIGHTEEN + OTHER_SIX
        self.assertEqual(len(NINE_OF_24), 9)
        self.assertEqual(ask_in(4, rows, ("shows", NINE_OF_24), ("shows", NINE_OF_24[1:])), [[1], [0]])
        # One more makes an even number, two more an odd number in which some direction stands oddly often.
        others = [k for k in range(24) if k not in NINE_OF_24]
        for k in others:
            self.assertEqual(ask_in(4, rows, ("shows", sorted(NINE_OF_24 + [k]))), [[0]])
        for pair in zip(others, others[1:]):
            self.assertEqual(ask_in(4, rows, ("shows", sorted(NINE_OF_24 + list(pair)))), [[0]])

    def test_with_one_in_no_complete_set_beside_them(self):
        for at in (0, 9, 18):
            rows = EIGHTEEN[:at] + [(1, 2, 3, 1)] + EIGHTEEN[at:]
            self.assertEqual(ask_in(4, rows, ("shows", list(range(9)))), [[1]])

    def test_an_even_number_does_not_show_it(self):
        # Each of the eight directions stands in two of the four complete sets.
        given = ask_in(4, two_planes(2), ("sets",), *[("of", i) for i in range(8)], ("shows", [0, 1, 2, 3]))
        self.assertEqual([answer[0] for answer in given], [4] + [2] * 8 + [0])
        self.assertEqual(shown(4, two_planes(2), rows_of_sets(4)), [])
        self.assertEqual(shown(4, two_planes(3), rows_of_sets(9)), [])

    def test_an_even_number_does_not_show_it_where_an_odd_one_does(self):
        rows = EIGHTEEN + OTHER_SIX
        found = Model(4, rows).complete()
        fours = [
            list(row) for row in itertools.combinations(range(24), 4)
            if all(sum(i in found[k] for k in row) % 2 == 0 for i in range(24))
        ]
        self.assertNotEqual(fours, [])
        self.assertEqual(shown(4, rows, fours), [])
        # Laid over the nine that show it they make another odd number that does.
        for four in fours:
            row = sorted(set(four) ^ set(NINE_OF_24))
            self.assertEqual(len(row) % 2, 1)
            self.assertEqual(ask_in(4, rows, ("shows", row)), [[1]])
        self.assertEqual(ask_in(4, rows, ("shows", list(range(24)))), [[0]])

    def test_an_odd_number_that_does_not_show_it(self):
        for row in ([0], [8], [0, 1, 2], [2, 4, 5, 7, 8], [0, 1, 2, 3, 5, 6, 7]):
            self.assertEqual(ask_in(4, EIGHTEEN, ("shows", row)), [[0]])
        self.assertEqual(ask_in(4, two_planes(6), ("sets",), ("shows", list(range(35)))), [[36], [0]])
        # All but four directions stand in none or in two of these.
        rows = EIGHTEEN + OTHER_SIX
        for row in ([0, 2, 15], [0, 1, 2, 15, 23], [0, 1, 2, 4, 6, 9, 23]):
            found = Model(4, rows).complete()
            odd = [i for i in range(24) if sum(i in found[k] for k in row) % 2]
            self.assertEqual(len(odd), 4)
            self.assertEqual(ask_in(4, rows, ("shows", row)), [[0]])

    def test_every_complete_set_at_once(self):
        self.assertEqual(ask_in(4, two_planes(6), ("shows", list(range(36)))), [[0]])
        self.assertEqual(ask_in(2, PLANE, ("shows", list(range(8)))), [[0]])

    def test_never_in_two_or_three_dimensions(self):
        self.assertEqual(shown(2, PLANE, rows_of_sets(8)), [])
        for rows in (
            [[0, 0, 1]] + [[a, b, 0] for a, b in PLANE],
            AXES_3 + [[1, 1, 0], [1, -1, 0], [1, 0, 1], [1, 0, -1], [0, 1, 1], [0, 1, -1], [1, 1, 1], [1, 1, -2]],
            WITH_SETS_999,
        ):
            count = ask_in(3, rows, ("sets",))[0][0]
            self.assertEqual(shown(3, rows, rows_of_sets(count)), [])

    def test_with_the_new_numbers_after_a_change(self):
        given = ask_in(
            4, EIGHTEEN, ("shows", list(range(9))), ("remove", 0), ("shows", list(range(9))), ("shows", list(range(7))),
            ("direction", list(EIGHTEEN[0])), ("shows", list(range(9))), ("begin", 4), ("shows", [0]), ("shows", []),
        )
        self.assertEqual(given, [[1], [17], [-22], [0], [17], [1], [0], [-22], [0]])


class NotAsTold(unittest.TestCase):
    def refused(self, row):
        before = ask_in(4, EIGHTEEN, *look_all(18, 9))
        self.assertEqual(ask_in(4, EIGHTEEN, ("shows", row), *look_all(18, 9)), [[-22]] + before, row)

    def test_not_rising(self):
        for row in ([1, 0], [8, 0], [0, 2, 1], list(range(8, -1, -1)), [0, 1, 2, 3, 4, 5, 6, 8, 7]):
            self.refused(row)

    def test_the_same_twice(self):
        for row in ([0, 0], [8, 8], [0, 1, 1], [0, 0, 0], [0] * 60, [0, 0] + list(range(1, 9)), list(range(9)) + [8]):
            self.refused(row)

    def test_one_that_there_is_not(self):
        for row in ([9], [0, 9], list(range(10)), list(range(60)), [LARGEST], [0, LARGEST], list(range(8)) + [9]):
            self.refused(row)

    def test_both_at_once(self):
        for row in ([9, 0], [LARGEST, LARGEST], [LARGEST, 0], [0, LARGEST, 8]):
            self.refused(row)

    def test_a_direction_is_no_complete_set(self):
        self.assertEqual(ask_in(4, EIGHTEEN, ("shows", [17]), ("fits", [17])), [[-22], [0]])
        given = ask_in(4, two_planes(6), ("shows", [35]), ("fits", [35]), ("shows", [36]))
        self.assertEqual(given, [[0], [-22], [-22]])

    def test_before_a_begin_not_begun_is_told(self):
        self.assertEqual(ask(("shows", []), ("shows", [1, 0]), ("shows", [LARGEST])), [[-11]] * 3)


class Seen(unittest.TestCase):
    def seen(self, dimensions, rows):
        return ask_in(dimensions, rows, ("seen",))[0]

    def test_few_directions(self):
        for dimensions in (2, 3, 4):
            self.assertEqual(self.seen(dimensions, []), [0])
            self.assertEqual(self.seen(dimensions, [[1] * dimensions]), [0])
        for dimensions, rows in ((2, PLANE[:2]), (3, AXES_3), (4, AXES_4)):
            self.assertEqual(self.seen(dimensions, rows), [0])

    def test_the_eighteen(self):
        for rows in (EIGHTEEN, EIGHTEEN[::-1], EIGHTEEN[11:] + EIGHTEEN[:11]):
            self.assertEqual(self.seen(4, rows), [1])

    def test_more_than_the_eighteen(self):
        self.assertEqual(self.seen(4, TWENTY_FOUR), [1])
        self.assertEqual(self.seen(4, TWENTY_FOUR[::-1]), [1])
        for count in range(1, 7):
            self.assertEqual(self.seen(4, EIGHTEEN + OTHER_SIX[:count]), [1])
            self.assertEqual(self.seen(4, OTHER_SIX[:count] + EIGHTEEN), [1])
        self.assertEqual(self.seen(4, [(1, 2, 3, 1)] + EIGHTEEN + [(1, 2, 3, 0)]), [1])

    def test_where_some_way_fits(self):
        for i in range(18):
            self.assertEqual(self.seen(4, EIGHTEEN[:i] + EIGHTEEN[i + 1:]), [0])
        for rows in (SIX_APART, NONE_RIGHT_4, TWENTY_FOUR[:12], TWENTY_FOUR[12:]):
            self.assertEqual(ask_in(4, rows, ("seen",), ("needed",)), [[0], [-6]])

    def test_where_nothing_fits_and_yet_none_show_it(self):
        for rows in (TWENTY_TWO, TWENTY_TWO[::-1]):
            self.assertEqual(ask_in(4, rows, ("way",), ("seen",), ("sets",)), [[-33], [0], [12]])
        self.assertEqual(shown(4, TWENTY_TWO, rows_of_sets(12)), [])

    def test_only_an_even_number_would_show_it(self):
        for pairs in range(1, 7):
            self.assertEqual(self.seen(4, two_planes(pairs)), [0])

    def test_in_two_and_three_dimensions(self):
        self.assertEqual(self.seen(2, PLANE), [0])
        rich = AXES_3 + [[1, 1, 0], [1, -1, 0], [1, 0, 1], [1, 0, -1], [0, 1, 1], [0, 1, -1], [1, 1, 1], [1, 1, -2]]
        around = [[0, 0, 1]] + [[a, b, 0] for a, b in PLANE]
        for rows in (THOUSAND, NONE_RIGHT_3, WITH_SETS_999, WITH_SETS_1000, WITH_SETS_1001, rich, around):
            self.assertEqual(self.seen(3, rows), [0])

    def test_just_if_some_show_it(self):
        # Of each of these all rows of complete sets are tried.
        for rows in (EIGHTEEN, EIGHTEEN[1:], two_planes(3), EIGHTEEN + OTHER_SIX[:1], EIGHTEEN[1:] + OTHER_SIX[:2]):
            model = Model(4, rows)
            found = model.complete()
            self.assertLess(len(found), 13)
            some = any(model.show([found[k] for k in row]) for row in rows_of_sets(len(found)))
            self.assertEqual(self.seen(4, rows), [int(some)])

    def test_it_follows_each_change(self):
        given = ask_in(
            4, EIGHTEEN, ("seen",), ("remove", 17), ("seen",), ("direction", [-3 * n for n in EIGHTEEN[17]]), ("seen",),
            ("begin", 7), ("seen",), ("begin", 4), ("seen",),
        )
        self.assertEqual(given, [[1], [17], [0], [17], [1], [-22], [1], [0], [0]])

    def test_changes_nothing(self):
        before = ask_in(4, EIGHTEEN, *look_all(18, 9))
        self.assertEqual(ask_in(4, EIGHTEEN, ("seen",), *look_all(18, 9)), [[1]] + before)

    def test_before_a_begin_not_begun_is_told(self):
        self.assertEqual(ask(("seen",), ("begin", 1), ("seen",)), [[-11], [-22], [-11]])


if __name__ == "__main__":
    unittest.main()
