import contextlib
import io
import unittest

from cellflow.cells import Grid
from cellflow.grid import answers
from tests.helper import (NOT_FINITE, OMEGA, ONE, begin, bits, flattened, get, get_all, mass, model_told, set_flow,
                          set_values, step, told, wall)

REFUSALS = (
    (begin(0, 2), -2), (begin(3, 257), -2), (begin(3, 2, NOT_FINITE[0]), -3), (begin(0, 2, NOT_FINITE[2]), -2),
    (wall(3, 0), -2), (wall(0, -1, 0), -2), (wall(0, 0, 2), -2),
    (set_flow(0, 2), -2), (set_flow(0, 0, NOT_FINITE[1]), -3), (set_flow(0, 0, ONE, bits(1e200)), -4),
    (step(-1), -2), (step(1000001), -2),
    (get(3, 1), -2), (get(-1, 0), -2),
)


class Unchangeable(list):
    def refuse(self, *given, **named):
        raise AssertionError("the list of calls was changed")

    append = extend = insert = pop = remove = clear = reverse = sort = refuse
    __setitem__ = __delitem__ = __iadd__ = __imul__ = refuse


class Line(unittest.TestCase):
    CALLS = (
        begin(3, 2), wall(1, 1), set_flow(1, 1), begin(0, 0), set_flow(3, 0), wall(0, 0, 2),
        set_flow(0, 0, NOT_FINITE[0]), set_flow(0, 0, ONE, bits(1e200)), set_flow(2, 0), step(3), get(2, 0), get(1, 1),
        mass(), step(-1), get(3, 0), wall(1, 1, 0), mass(), set_values(0, 0, 0.0), step(2), get(0, 0), get(2, 0),
        set_values(0, 1, 1.7e308), set_values(1, 1, 1.7e308), mass(), begin(1, 1), wall(1, 1, 0), get(0, 0), mass())
    # How each of them is answered: its count and its first number.
    FIRST = [(1, 0), (1, 0), (1, 0), (1, -2), (1, -2), (1, -2),
             (1, -3), (1, -4), (1, 0), (1, 0), (4, 0), (4, 0),
             (2, 0), (1, -2), (1, -2), (1, 0), (2, 0), (1, 0), (1, -4), (1, -4), (4, 0),
             (1, 0), (1, 0), (1, -4), (1, 0), (1, -2), (4, 0), (2, 0)]

    def line(self):
        return flattened(self.CALLS)

    def expected(self):
        return flattened([[len(numbers)] + numbers for numbers in model_told(*self.CALLS)])

    def test_answers_come_in_order_with_their_counts(self):
        self.assertEqual(answers(self.line()), self.expected())
        self.assertEqual([(len(numbers), numbers[0]) for numbers in told(*self.CALLS)], self.FIRST)

    def test_written_out(self):
        rho = 0x3FF0000000000001
        self.assertEqual(answers([0, 1, 1, ONE, 4, 0, 0, 5, 3, 0, 4, 1, 0, 1, 0, 0, 1, 5]),
                         [1, 0, 4, 0, rho, 0, 0, 2, 0, rho, 1, 0, 1, -2, 1, 0, 2, 0, 0])

    def test_as_the_readme_tells(self):
        line = [0, 8, 4, ONE, 1, 3, 2, 1, 2, 0, 0, ONE, 0, 0, 3, 10, 4, 0, 0, 5, 1, 8, 2, 1]
        self.assertEqual(answers(line), [1, 0, 1, 0, 1, 0, 1, 0, 4, 0, 4607182418800017409, 0, 0, 2, 0,
                                         4629418941960159234, 1, -2])

    def test_one_call_alone(self):
        self.assertEqual(answers(begin(1, 1)), [1, 0])

    def test_whole_numbers_in_a_list(self):
        numbers = answers(self.line())
        self.assertIs(type(numbers), list)
        self.assertEqual({type(number) for number in numbers}, {int})
        self.assertTrue(all(-4 <= number < 1 << 64 for number in numbers))

    def test_what_is_handed_in_is_not_changed(self):
        line = self.line()
        answers(line)
        self.assertEqual(line, self.line())
        self.assertEqual(answers(Unchangeable(line)), self.expected())

    def test_nothing_is_kept(self):
        line = self.line()
        first = answers(line)
        first.append(9)
        self.assertEqual(answers(line), self.expected())
        answers(flattened([begin(9, 9, bits(0.3)), wall(1, 1), set_flow(2, 0), step(2)]))
        self.assertEqual(told(begin(3, 3), wall(8, 8)), [[0], [-2]])
        self.assertEqual(answers(line), self.expected())

    def test_nothing_is_printed(self):
        printed, complained = io.StringIO(), io.StringIO()
        with contextlib.redirect_stdout(printed), contextlib.redirect_stderr(complained):
            answers(self.line())
        self.assertEqual(printed.getvalue() + complained.getvalue(), "")


class Long(unittest.TestCase):
    def check(self, calls):
        self.assertEqual(len(calls), 400)
        self.assertEqual(told(*calls), model_told(*calls))

    def test_400_begins_and_sets(self):
        self.assertEqual(told(*[begin(256, 256)] * 200, *[set_flow(255, 255)] * 200), [[0]] * 400)

    def test_400_calls_of_all_kinds(self):
        each = (wall(1, 1), set_flow(2, 1), step(1), get(2, 1), mass(), wall(1, 1, 0), get(1, 1))
        self.check([begin(3, 2)] + [call for _ in range(57) for call in each])

    def test_400_steps_and_gets(self):
        self.check([begin(2, 2), set_flow(0, 1)] + [step(), get(1, 1)] * 199)


class BeginAgain(unittest.TestCase):
    def test_as_if_it_were_the_first(self):
        behind = (begin(2, 4, bits(0.9)), set_flow(1, 3), step(3), *get_all(2, 4), mass())
        ahead = (begin(3, 2), wall(1, 1), wall(0, 0), set_flow(2, 0, ONE, ONE, 0), step(2))
        self.assertEqual(told(*ahead, *behind)[5:], told(*behind))
        self.assertEqual(told(*ahead, *behind), model_told(*ahead, *behind))

    def test_other_sides_and_another_omega(self):
        calls = [begin(3, 2), set_flow(2, 1), step(2), *get_all(3, 2), begin(2, 3, bits(0.5)), set_flow(1, 2), step(2),
                 *get_all(2, 3), get(2, 1), begin(1, 1, 0), step(5), get(0, 0), get(1, 0), mass()]
        self.assertEqual(told(*calls), model_told(*calls))

    def test_it_takes_the_walls_away(self):
        calls = [begin(2, 1), wall(0, 0), wall(1, 0), mass(), begin(2, 1), mass()]
        empty, full = told(*calls)[3::2]
        self.assertEqual(empty, [0, 0])
        self.assertEqual(full, told(begin(2, 1), mass())[-1])


class Refusals(unittest.TestCase):
    AHEAD = (begin(3, 2), set_flow(1, 1), set_values(2, 0, 1.2, 0.1, 0.1), wall(0, 1), step())
    BEHIND = (*get_all(3, 2), mass(), step(3), *get_all(3, 2), wall(0, 1, 0), mass(), step(2), *get_all(3, 2))

    def test_each_leaves_the_grid(self):
        want = told(*self.AHEAD, *self.BEHIND)
        for refused, code in REFUSALS:
            got = told(*self.AHEAD, refused, *self.BEHIND)
            self.assertEqual(got.pop(len(self.AHEAD)), [code], refused)
            self.assertEqual(got, want, refused)

    def test_all_in_between(self):
        refused = [call for call, code in REFUSALS]
        calls = []
        for call in self.AHEAD + self.BEHIND:
            calls.extend([call] + refused)
        got = told(*calls)
        every = 1 + len(refused)
        self.assertEqual(got[::every], told(*self.AHEAD, *self.BEHIND))
        for place, (call, code) in enumerate(REFUSALS):
            self.assertEqual(set(map(tuple, got[1 + place::every])), {(code,)}, call)

    def test_failures_leave_the_grid(self):
        # The zero in the corner makes steps and its get fail; the large ones make mass fail.
        ahead = (*self.AHEAD, set_values(0, 0, 0.0), set_values(1, 0, 1.7e308), set_values(2, 1, 1.7e308))
        calls = (*ahead, *get_all(3, 2), step(), get(0, 0), mass(), step(1000000), *get_all(3, 2))
        got = told(*calls)
        self.assertEqual(got, model_told(*calls))
        self.assertEqual(got[14:18], [[-4]] * 4)
        self.assertEqual(got[18:], got[8:14])


class Apart(unittest.TestCase):
    def test_grids_share_nothing(self):
        one, other = Grid(), Grid()
        for grid in (one, other):
            grid.begin(2, 2, OMEGA)
        one.wall(0, 0, 1)
        one.set_flow(1, 1, ONE, ONE, ONE)
        one.step(1)
        third = Grid()
        third.begin(2, 2, OMEGA)
        self.assertEqual((other.walls, other.shares), (third.walls, third.shares))


if __name__ == "__main__":
    unittest.main()
