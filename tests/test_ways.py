import itertools
import unittest

from tests.examples import (
    AXES_3, AXES_4, EIGHTEEN, NONE_RIGHT_3, NONE_RIGHT_4, OTHER_SIX, PLANE, SIX_APART, THOUSAND, TWENTY_FOUR,
    WITH_SETS_999, WITH_SETS_1000, WITH_SETS_1001, two_planes,
)
from tests.lines import ask, ask_in, look_all
from tests.model import Model


def count_by_trying_all(dimensions, rows):
    model = Model(dimensions, rows)
    numbers = range(len(rows))
    tried = itertools.chain.from_iterable(itertools.combinations(numbers, size) for size in range(len(rows) + 1))
    return sum(model.fits(marked) for marked in tried)


class Ways(unittest.TestCase):
    def ways(self, dimensions, rows):
        return ask_in(dimensions, rows, ("ways",))[0]

    def test_no_directions(self):
        for dimensions in (2, 3, 4):
            self.assertEqual(self.ways(dimensions, []), [1])

    def test_one_direction(self):
        for dimensions in (2, 3, 4):
            self.assertEqual(self.ways(dimensions, [[1] * dimensions]), [2])

    def test_two(self):
        self.assertEqual(self.ways(2, [[1, 0], [0, 1]]), [2])
        self.assertEqual(self.ways(2, [[1, 0], [1, 1]]), [4])
        # At right angles, and yet no complete set: none may be marked, too.
        self.assertEqual(self.ways(3, AXES_3[:2]), [3])
        self.assertEqual(self.ways(4, AXES_4[:2]), [3])

    def test_one_complete_set(self):
        self.assertEqual(self.ways(3, AXES_3), [3])
        self.assertEqual(self.ways(4, AXES_4), [4])

    def test_the_plane(self):
        for count in range(17):
            self.assertEqual(self.ways(2, PLANE[:count]), [2 ** ((count + 1) // 2)])

    def test_beside_a_complete_set(self):
        self.assertEqual(self.ways(3, AXES_3 + [[1, 2, 3]]), [6])
        # At right angles to one of the complete set.
        self.assertEqual(self.ways(3, AXES_3 + [[1, 1, 0]]), [5])
        self.assertEqual(self.ways(3, [[1, 1, 0]] + AXES_3), [5])
        # Two at right angles to one another, of which one is so to one of the complete set, too.
        self.assertEqual(self.ways(3, AXES_3 + [[1, 2, 0], [2, -1, 3]]), [8])

    def test_complete_sets_that_share_a_direction(self):
        for pairs in range(1, 9):
            rows = [[0, 0, 1]] + [[a, b, 0] for a, b in PLANE[:2 * pairs]]
            self.assertEqual(self.ways(3, rows), [1 + 2 ** pairs])

    def test_two_planes(self):
        for pairs in range(1, 7):
            self.assertEqual(self.ways(4, two_planes(pairs)), [2 * 2 ** pairs])

    def test_complete_sets_apart(self):
        for count in range(5):
            self.assertEqual(self.ways(4, SIX_APART[:4 * count]), [4 ** count])

    def test_none_where_nothing_fits(self):
        self.assertEqual(self.ways(4, EIGHTEEN), [0])
        self.assertEqual(self.ways(4, TWENTY_FOUR), [0])
        for count in range(1, 7):
            self.assertEqual(self.ways(4, EIGHTEEN + OTHER_SIX[:count]), [0])
            self.assertEqual(self.ways(4, OTHER_SIX[:count] + EIGHTEEN), [0])

    def test_eighteen_but_one(self):
        for i in range(18):
            self.assertEqual(self.ways(4, EIGHTEEN[:i] + EIGHTEEN[i + 1:]), [12])

    def test_against_all_that_can_be_tried(self):
        rows_3 = AXES_3 + [[1, 1, 0], [1, -1, 0], [1, 0, 1], [1, 0, -1], [0, 1, 1], [0, 1, -1]]
        for dimensions, rows in ((2, PLANE[3:12]), (3, rows_3), (3, WITH_SETS_1000[:9]), (3, WITH_SETS_1001[-9:]),
                                 (4, TWENTY_FOUR[:9]), (4, TWENTY_FOUR[7:16]), (4, EIGHTEEN[:9]), (4, EIGHTEEN[9:])):
            expected = count_by_trying_all(dimensions, rows)
            for order in (rows, rows[::-1], rows[::2] + rows[1::2]):
                self.assertEqual(self.ways(dimensions, order), [expected], order)


class NearAThousand(unittest.TestCase):
    def both_ways_round(self, dimensions, rows, answer):
        for order in (rows, rows[::-1], rows[::2] + rows[1::2]):
            self.assertEqual(ask_in(dimensions, order, ("ways",)), [[answer]])

    def test_without_complete_sets(self):
        lifted = [row + (0,) for row in THOUSAND]
        self.assertEqual(ask_in(3, THOUSAND, ("sets",)), [[0]])
        self.both_ways_round(3, THOUSAND, 1000)
        self.both_ways_round(4, lifted, 1000)
        # At right angles to all of them: it can be marked alone, and that is one way more.
        self.assertEqual(len(list(Model(4, lifted + [(0, 0, 0, 1)]).fitting())), 1001)
        self.both_ways_round(4, lifted + [(0, 0, 0, 1)], -75)
        self.both_ways_round(4, [(0, 0, 0, 1)] + lifted, -75)

    def test_with_complete_sets(self):
        for count, rows in ((999, WITH_SETS_999), (1000, WITH_SETS_1000), (1001, WITH_SETS_1001)):
            self.assertEqual(len(list(Model(3, rows).fitting())), count)
            self.assertNotEqual(ask_in(3, rows, ("sets",)), [[0]])
            self.both_ways_round(3, rows, count if count <= 1000 else -75)

    def test_two_to_the_ninth_and_the_tenth(self):
        for count in range(10):
            self.assertEqual(ask_in(4, NONE_RIGHT_4[:count], ("ways",)), [[2 ** count]])
        for count in range(10, 25):
            self.assertEqual(ask_in(4, NONE_RIGHT_4[:count], ("ways",)), [[-75]])
            self.assertEqual(ask_in(3, NONE_RIGHT_3[:count], ("ways",)), [[-75]])

    def test_by_complete_sets_alone(self):
        # The fifth set comes in one by one: times 2, 3 and 4 while it isn't complete, and times 4 then.
        self.assertEqual(ask_in(4, SIX_APART[:16], ("ways",)), [[256]])
        self.assertEqual(ask_in(4, SIX_APART[:17], ("ways",)), [[512]])
        self.assertEqual(ask_in(4, SIX_APART[:18], ("ways",)), [[768]])
        self.assertEqual(ask_in(4, SIX_APART[:19], ("ways",)), [[-75]])
        self.assertEqual(ask_in(4, SIX_APART[:20], ("ways",)), [[-75]])
        self.assertEqual(ask_in(4, SIX_APART, ("ways",)), [[-75]])

    def test_a_step_above_and_below_within_one_line(self):
        lifted = [row + (0,) for row in THOUSAND]
        given = ask_in(
            4, lifted, ("ways",), ("direction", [0, 0, 0, 1]), ("ways",), ("fits", [12]), ("remove", 12), ("ways",),
            ("remove", 11), ("ways",),
        )
        self.assertEqual(given, [[1000], [12], [-75], [1], [12], [1000], [11], [500]])

    def test_too_many_to_count_changes_nothing(self):
        for dimensions, rows, count in ((4, SIX_APART, 6), (4, NONE_RIGHT_4, 0), (3, NONE_RIGHT_3, 0)):
            shown = ask_in(dimensions, rows, *look_all(24, count))
            given = ask_in(dimensions, rows, ("ways",), *look_all(24, count))
            self.assertEqual(given, [[-75]] + shown)


class AfterChanges(unittest.TestCase):
    def test_it_follows_each_change(self):
        given = ask_in(
            3, AXES_3, ("ways",), ("direction", [1, 1, 1]), ("ways",), ("remove", 0), ("ways",),
            ("remove", 2), ("ways",), ("begin", 2), ("ways",), ("direction", [1, 1]), ("ways",),
            ("begin", 1), ("ways",),
        )
        self.assertEqual(given, [[3], [3], [6], [3], [6], [2], [3], [0], [1], [0], [2], [-22], [2]])

    def test_before_a_begin_not_begun_is_told(self):
        self.assertEqual(ask(("ways",), ("begin", 5), ("ways",)), [[-11], [-22], [-11]])


if __name__ == "__main__":
    unittest.main()
