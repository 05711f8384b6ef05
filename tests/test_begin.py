import unittest

from tests.examples import AXES_3
from tests.lines import LARGEST, ask, ask_in, look

# Of each call but begin: one that would be granted in some space, and ones that never would.
OTHERS = [
    ("direction", [1, 0]), ("direction", [1, 0, 0]), ("direction", []), ("direction", [4] * 6),
    ("direction", [0, 0, 0]),
    ("remove", 0), ("remove", LARGEST),
    ("directionis", 0), ("directionis", LARGEST),
    ("right", 0, 0), ("right", LARGEST, 0),
    ("sets",),
    ("set", 0), ("set", LARGEST),
    ("of", 0), ("of", LARGEST),
    ("fits", []), ("fits", list(range(30))), ("fits", [LARGEST, 0]),
    ("way",), ("ways",),
    ("shows", []), ("shows", list(range(60))), ("shows", [5, 5]),
    ("seen",), ("needed",), ("state",),
]
NO_SPACES = (0, 1, 5, 6, 1000, 2147483648, LARGEST - 1, LARGEST)


class Begin(unittest.TestCase):
    def test_two_to_four_dimensions_are_taken(self):
        for dimensions in (2, 3, 4):
            self.assertEqual(ask(("begin", dimensions)), [[0]])

    def test_all_else_is_not_as_told(self):
        for dimensions in NO_SPACES:
            self.assertEqual(ask(("begin", dimensions)), [[-22]], dimensions)

    def test_how_many_numbers_a_direction_needs(self):
        for dimensions in (2, 3, 4):
            for size in range(7):
                answer = [0] if size == dimensions else [-22]
                self.assertEqual(ask(("begin", dimensions), ("direction", [1] * size))[1], answer)

    def test_a_space_begins_with_no_directions(self):
        for dimensions in (2, 3, 4):
            given = ask(("begin", dimensions), ("sets",), ("directionis", 0), ("set", 0), ("of", 0))
            self.assertEqual(given, [[0], [0], [-2], [-2], [-2]])


class NotBegun(unittest.TestCase):
    def test_each_other_call_alone(self):
        for call in OTHERS:
            self.assertEqual(ask(call), [[-11]], call)

    def test_all_other_calls_in_a_row(self):
        self.assertEqual(ask(*OTHERS), [[-11]] * len(OTHERS))

    def test_after_a_begin_that_was_refused(self):
        for dimensions in NO_SPACES:
            given = ask(("begin", dimensions), *OTHERS)
            self.assertEqual(given, [[-22]] + [[-11]] * len(OTHERS), dimensions)

    def test_what_was_refused_is_not_there_once_it_is_begun(self):
        given = ask(("direction", [1, 0]), ("begin", 7), ("direction", [1, 0]), ("begin", 2), *look(0, 0))
        self.assertEqual(given, [[-11], [-22], [-11], [0], [-2], [0], [-2], [-2]])

    def test_begun_after_a_refusal(self):
        given = ask(("sets",), ("begin", 1), ("sets",), ("begin", 2), ("sets",), ("direction", [1, 0]))
        self.assertEqual(given, [[-11], [-22], [-11], [0], [0], [0]])


class BeginAgain(unittest.TestCase):
    def test_a_refused_one_leaves_all_as_it_was(self):
        rows = AXES_3 + [[1, 1, 0]]
        shown = ask_in(3, rows, *look(4, 1))
        self.assertEqual(shown[:4], [[3] + row for row in rows])
        for dimensions in NO_SPACES:
            given = ask_in(3, rows, ("begin", dimensions), *look(4, 1), ("direction", [1, -1, 0]), ("sets",))
            self.assertEqual(given, [[-22]] + shown + [[4], [2]], dimensions)

    def test_a_taken_one_starts_with_no_directions(self):
        for dimensions in (2, 3, 4):
            given = ask_in(3, AXES_3, ("sets",), ("begin", dimensions), *look(0, 0))
            self.assertEqual(given, [[1], [0], [-2], [0], [-2], [-2]])

    def test_a_taken_one_has_its_own_dimensions(self):
        given = ask_in(
            3, AXES_3, ("begin", 2),
            ("direction", [1, 0, 0]), ("direction", [1, 0]), ("directionis", 0), ("direction", [0, 1]),
            ("set", 0), ("begin", 4), ("direction", [0, 1]), ("direction", [0, 1, 0, 0]), ("directionis", 0),
        )
        self.assertEqual(given, [[0], [-22], [0], [2, 1, 0], [1], [2, 0, 1], [0], [-22], [0], [4, 0, 1, 0, 0]])

    def test_a_direction_may_come_again_in_a_new_space(self):
        given = ask_in(3, AXES_3, ("direction", [1, 0, 0]), ("begin", 3), ("direction", [1, 0, 0]))
        self.assertEqual(given, [[-17], [0], [0]])


if __name__ == "__main__":
    unittest.main()
