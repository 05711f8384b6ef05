import contextlib
import io
import unittest

from cantcolour.space import answers
from tests.examples import AXES_3, EIGHTEEN, SIX_APART, TWENTY_FOUR
from tests.lines import LARGEST, ask, look, look_all, space_of, write


class Unchanged(list):
    """A list that refuses to be changed, not for a while either."""

    def refuse(self, *arguments, **named):
        raise AssertionError("what is handed in is changed")

    append = clear = extend = insert = pop = remove = reverse = sort = refuse
    __setitem__ = __delitem__ = __iadd__ = __imul__ = refuse


LINES = [
    write(space_of(3, AXES_3) + look(3, 1) + [("remove", 1)] + look(2, 0)),
    write(space_of(4, EIGHTEEN) + [("set", 8), ("of", 17), ("begin", 2), ("sets",), ("direction", [0, 1])]),
    write([("sets",), ("begin", 9), ("direction", [4, -2147483648, 2147483647, 0, 0, 0]), ("set", LARGEST)]),
    write(space_of(4, TWENTY_FOUR) + [("direction", [1, 2, 3, 0]), ("direction", [2, 0, 0, 0]), ("sets",)]),
    write(space_of(3, AXES_3) + look_all(3, 1) + [("remove", 1)] + look_all(2, 0) + look_all(2, 0)),
    write(space_of(4, EIGHTEEN) + look_all(18, 9) + [("fits", [1, 0]), ("shows", [9])]),
    write(space_of(4, EIGHTEEN) + look_all(18, 9) + [("remove", 0)] + look_all(17, 7)),
    write(space_of(4, SIX_APART) + look_all(24, 6) + [("fits", [LARGEST]), ("shows", [LARGEST])]),
    write([("way",), ("ways",), ("seen",), ("needed",), ("state",), ("fits", [0]), ("shows", [])]),
]


class Form(unittest.TestCase):
    def test_a_line_number_by_number(self):
        line = [
            5,
            0, 3,
            1, 3, 1, 0, 0,
            1, 3, 0, -2, 0,
            1, 0,
            1, 6, 1, 2, 3, 1, 2, 3,
            1, 3, 0, 1, 1,
            1, 3, 0, 0, 3,
            3, 1,
            4, 1, 2,
            4, 0, 1,
            5,
            6, 0,
            6, 1,
            7, 3,
            7, 2,
            2, 2,
            7, 2,
        ]
        self.assertEqual(answers(line), [
            1, -11,
            1, 0,
            1, 0,
            1, 1,
            1, -22,
            1, -22,
            1, 2,
            1, 3,
            4, 3, 0, -2, 0,
            2, 0, -2,
            2, 1, 0,
            1, 1,
            4, 3, 0, 1, 3,
            1, -2,
            2, 1, 0,
            1, 0,
            1, 3,
            2, 1, 0,
        ])

    def test_marking_and_showing_number_by_number(self):
        line = [
            14,
            0, 2,
            14,
            9,
            10,
            8, 0,
            1, 2, 3, 1,
            1, 2, 1, -3,
            1, 2, 1, 1,
            14,
            8, 1, 1,
            8, 2, 0, 2,
            8, 2, 0, 1,
            8, 2, 2, 0,
            8, 1, 3,
            9,
            10,
            11, 0,
            11, 1, 0,
            11, 1, 1,
            12,
            13,
            2, 0,
            9,
            10,
            14,
        ]
        self.assertEqual(answers(line), [
            1, -11,
            1, 0,
            3, 2, 0, 0,
            1, 0,
            1, 1,
            1, 1,
            1, 0,
            1, 1,
            1, 2,
            3, 2, 3, 2,
            1, 1,
            1, 1,
            1, 0,
            1, -22,
            1, -22,
            2, 1, 1,
            1, 4,
            1, 0,
            1, 0,
            1, -22,
            1, 0,
            1, -6,
            1, 2,
            1, 0,
            1, 4,
            3, 2, 2, 0,
        ])

    def test_eighteen_in_nine_number_by_number(self):
        line = write(space_of(4, EIGHTEEN)) + [9, 10, 11, 9, 0, 1, 2, 3, 4, 5, 6, 7, 8, 12, 13, 14]
        expected = [1, -33, 1, 0, 1, 1, 1, 1, 19, 18] + list(range(18)) + [3, 4, 18, 36]
        self.assertEqual(answers(line)[2 * 19:], expected)

    def test_rows_of_every_size_are_passed_over(self):
        # The numbers of the rows are those of calls, so that a wrong step shows.
        for number, most in ((1, 6), (8, 30), (11, 60)):
            for size in range(most + 1):
                self.assertEqual(answers([number, size] + [5] * size + [0, 3, 5]), [1, -11, 1, 0, 1, 0])
        for size in (0, 1, 2, 4, 5, 6):
            self.assertEqual(answers([0, 3, 1, size] + [5] * size + [5]), [1, 0, 1, -22, 1, 0])
        for number, most in ((8, 30), (11, 60)):
            for size in range(1, most + 1):
                self.assertEqual(answers([0, 3, number, size] + [5] * size + [5]), [1, 0, 1, -22, 1, 0])

    def test_one_call_alone(self):
        self.assertEqual(answers([0, 2]), [1, 0])
        self.assertEqual(answers([0, 5]), [1, -22])
        self.assertEqual(answers([14]), [1, -11])

    def test_the_longest_lines(self):
        calls = space_of(4, TWENTY_FOUR)
        self.assertEqual(ask(*calls, *[("sets",)] * (400 - len(calls)))[25:], [[24]] * 375)
        self.assertEqual(answers(([11, 60] + [LARGEST] * 60) * 400), [1, -11] * 400)
        self.assertEqual(answers([0, 4] + ([11, 60] + [LARGEST] * 60) * 399), [1, 0] + [1, -22] * 399)
        self.assertEqual(answers([0, 4] + ([8, 30] + [LARGEST] * 30) * 399), [1, 0] + [1, -22] * 399)

    def test_whole_numbers_in_a_list(self):
        for line in LINES:
            given = answers(line)
            self.assertIs(type(given), list)
            self.assertEqual({type(number) for number in given}, {int})


class NothingKept(unittest.TestCase):
    def test_what_is_handed_in_stays_the_same(self):
        for line in LINES:
            before = list(line)
            answers(line)
            self.assertEqual(line, before)
            self.assertEqual(answers(Unchanged(line)), answers(line))

    def test_what_is_given_back_is_a_list_of_its_own(self):
        for line in LINES:
            first = answers(line)
            kept = list(first)
            second = answers(line)
            self.assertIsNot(first, second)
            first.clear()
            self.assertEqual(second, kept)
            self.assertEqual(answers(line), kept)

    def test_the_same_list_answers_the_same(self):
        first = [answers(line) for line in LINES]
        self.assertEqual([answers(line) for line in LINES], first)
        backwards = [answers(line) for line in reversed(LINES)]
        self.assertEqual(backwards, first[::-1])

    def test_each_list_has_a_new_space(self):
        self.assertEqual(ask(*space_of(3, AXES_3))[-1], [2])
        self.assertEqual(ask(("sets",), ("directionis", 0)), [[-11], [-11]])
        self.assertEqual(ask(("begin", 3), ("sets",), ("directionis", 0)), [[0], [0], [-2]])

    def test_nothing_is_printed(self):
        out, err = io.StringIO(), io.StringIO()
        with contextlib.redirect_stdout(out), contextlib.redirect_stderr(err):
            for line in LINES:
                answers(line)
        self.assertEqual((out.getvalue(), err.getvalue()), ("", ""))


if __name__ == "__main__":
    unittest.main()
