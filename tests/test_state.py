import unittest

from tests.examples import AXES_3, AXES_4, EIGHTEEN, NONE_RIGHT_4, PLANE, SIX_APART, TWENTY_FOUR, two_planes
from tests.lines import LARGEST, ask, ask_in, space_of


class State(unittest.TestCase):
    def test_after_a_begin(self):
        for dimensions in (2, 3, 4):
            self.assertEqual(ask(("begin", dimensions), ("state",)), [[0], [dimensions, 0, 0]])

    def test_after_each_direction(self):
        calls = [("begin", 3), ("state",)]
        for row in AXES_3 + [[1, 1, 0], [1, -1, 0]]:
            calls += [("direction", row), ("state",)]
        self.assertEqual(ask(*calls)[1::2], [[3, 0, 0], [3, 1, 0], [3, 2, 0], [3, 3, 3], [3, 4, 3], [3, 5, 6]])

    def test_after_each_remove(self):
        rows = AXES_3 + [[1, 1, 0], [1, -1, 0]]
        calls = [("state",)]
        for i in (0, 1, 0):
            calls += [("remove", i), ("state",)]
        self.assertEqual(ask_in(3, rows, *calls), [[3, 5, 6], [4], [3, 4, 3], [3], [3, 3, 0], [2], [3, 2, 0]])

    def test_each_direction_as_often_as_it_stands_in_a_complete_set(self):
        for dimensions, rows, together in (
            (2, PLANE[:2], 2), (2, PLANE, 16), (3, [[0, 0, 1]] + [[a, b, 0] for a, b in PLANE], 24),
            (4, AXES_4, 4), (4, EIGHTEEN, 36), (4, TWENTY_FOUR, 96), (4, two_planes(6), 144), (4, SIX_APART, 24),
            (4, NONE_RIGHT_4, 0),
        ):
            count = len(rows)
            given = ask_in(dimensions, rows, ("state",), *[("of", i) for i in range(count)])
            self.assertEqual(given[0], [dimensions, count, together])
            self.assertEqual(sum(answer[0] for answer in given[1:]), together)

    def test_after_refusals(self):
        refused = [
            ("begin", 1), ("begin", LARGEST), ("direction", [1, 0]), ("direction", [-1, 0, 0]),
            ("direction", [0, 0, 0]), ("remove", 3), ("directionis", 3), ("right", 0, 3), ("set", 1), ("of", 3),
            ("fits", [1, 0]), ("fits", [3]), ("shows", [0, 0]), ("shows", [1]), ("needed",),
        ]
        for call in refused:
            given = ask_in(3, AXES_3, ("state",), call, ("state",))
            self.assertLess(given[1][0], 0)
            self.assertEqual([given[0], given[2]], [[3, 3, 3]] * 2, call)
        self.assertEqual(ask_in(4, EIGHTEEN, ("way",), ("state",)), [[-33], [4, 18, 36]])
        self.assertEqual(ask_in(4, SIX_APART, ("ways",), ("state",)), [[-75], [4, 24, 24]])
        self.assertEqual(ask_in(4, TWENTY_FOUR, ("direction", [1, 2, 3, 0]), ("state",)), [[-28], [4, 24, 96]])

    def test_after_a_begin_again(self):
        given = ask(*space_of(3, AXES_3), ("state",), ("begin", 2), ("state",), ("direction", [1, 0]), ("state",))
        self.assertEqual(given[4:], [[3, 3, 3], [0], [2, 0, 0], [0], [2, 1, 0]])

    def test_before_a_begin_not_begun_is_told(self):
        self.assertEqual(ask(("state",), ("begin", 5), ("state",)), [[-11], [-22], [-11]])


if __name__ == "__main__":
    unittest.main()
