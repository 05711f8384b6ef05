import contextlib
import io
import unittest

from cantcolour.space import answers
from tests.examples import AXES_3, EIGHTEEN, TWENTY_FOUR
from tests.lines import LARGEST, ask, look, space_of, write


class Unchanged(list):
    """A list that refuses to be changed, not for a while either."""

    def refuse(self, *arguments, **named):
        raise AssertionError("what is handed in is changed")

    append = clear = extend = insert = pop = remove = reverse = sort = refuse
    __setitem__ = __delitem__ = __iadd__ = __imul__ = refuse


LINES = [
    write(space_of(3, AXES_3) + look(3, 1) + [("remove", 1)] + look(2, 0)),
    write(space_of(4, EIGHTEEN) + [("set", 8), ("of", 17), ("begin", 2), ("sets",), ("direction", [0, 1])]),
    write([("sets",), ("begin", 9), ("direction", [4, -2147483648, 2147483647, 0, 0, 0]), ("set", LARGEST)]),
    write(space_of(4, TWENTY_FOUR) + [("direction", [1, 2, 3, 0]), ("direction", [2, 0, 0, 0]), ("sets",)]),
]


class Form(unittest.TestCase):
    def test_a_line_number_by_number(self):
        line = [
            5,
            0, 3,
            1, 3, 1, 0, 0,
            1, 3, 0, -2, 0,
            1, 0,
            1, 6, 1, 2, 3, 1, 2, 3,
            1, 3, 0, 1, 1,
            1, 3, 0, 0, 3,
            3, 1,
            4, 1, 2,
            4, 0, 1,
            5,
            6, 0,
            6, 1,
            7, 3,
            7, 2,
            2, 2,
            7, 2,
        ]
        self.assertEqual(answers(line), [
            1, -11,
            1, 0,
            1, 0,
            1, 1,
            1, -22,
            1, -22,
            1, 2,
            1, 3,
            4, 3, 0, -2, 0,
            2, 0, -2,
            2, 1, 0,
            1, 1,
            4, 3, 0, 1, 3,
            1, -2,
            2, 1, 0,
            1, 0,
            1, 3,
            2, 1, 0,
        ])

    def test_rows_of_every_size_are_passed_over(self):
        # The numbers of the rows are those of calls, so that a wrong step shows.
        for number, most in ((1, 6), (8, 30), (11, 60)):
            for size in range(most + 1):
                self.assertEqual(answers([number, size] + [5] * size + [0, 3, 5]), [1, -11, 1, 0, 1, 0])
        for size in (0, 1, 2, 4, 5, 6):
            self.assertEqual(answers([0, 3, 1, size] + [5] * size + [5]), [1, 0, 1, -22, 1, 0])

    def test_one_call_alone(self):
        self.assertEqual(answers([0, 2]), [1, 0])
        self.assertEqual(answers([0, 5]), [1, -22])
        self.assertEqual(answers([14]), [1, -11])

    def test_the_longest_lines(self):
        calls = space_of(4, TWENTY_FOUR)
        self.assertEqual(ask(*calls, *[("sets",)] * (400 - len(calls)))[25:], [[24]] * 375)
        self.assertEqual(answers(([11, 60] + [LARGEST] * 60) * 400), [1, -11] * 400)

    def test_whole_numbers_in_a_list(self):
        for line in LINES:
            given = answers(line)
            self.assertIs(type(given), list)
            self.assertEqual({type(number) for number in given}, {int})


class NothingKept(unittest.TestCase):
    def test_what_is_handed_in_stays_the_same(self):
        for line in LINES:
            before = list(line)
            answers(line)
            self.assertEqual(line, before)
            self.assertEqual(answers(Unchanged(line)), answers(line))

    def test_what_is_given_back_is_a_list_of_its_own(self):
        for line in LINES:
            first = answers(line)
            kept = list(first)
            second = answers(line)
            self.assertIsNot(first, second)
            first.clear()
            self.assertEqual(second, kept)
            self.assertEqual(answers(line), kept)

    def test_the_same_list_answers_the_same(self):
        first = [answers(line) for line in LINES]
        self.assertEqual([answers(line) for line in LINES], first)
        backwards = [answers(line) for line in reversed(LINES)]
        self.assertEqual(backwards, first[::-1])

    def test_each_list_has_a_new_space(self):
        self.assertEqual(ask(*space_of(3, AXES_3))[-1], [2])
        self.assertEqual(ask(("sets",), ("directionis", 0)), [[-11], [-11]])
        self.assertEqual(ask(("begin", 3), ("sets",), ("directionis", 0)), [[0], [0], [-2]])

    def test_nothing_is_printed(self):
        out, err = io.StringIO(), io.StringIO()
        with contextlib.redirect_stdout(out), contextlib.redirect_stderr(err):
            for line in LINES:
                answers(line)
        self.assertEqual((out.getvalue(), err.getvalue()), ("", ""))


if __name__ == "__main__":
    unittest.main()
