import unittest
from itertools import islice

from cellflow.cells import Grid
from cellflow.doubles import NotFinite
from cellflow.steps import eased_cell
from tests import helper
from tests.helper import (LARGEST, LEAST, MOST, OMEGA, ONE, SIGN, WAYS, Chance, Checked, Fails, Model, begin, bits, get,
                          get_all, mass, model_told, pseudo_random_bits, set_flow, set_values, step, told, value,
                          wall, way_back)

WRONG_COUNTS = (-1, 1000001, LEAST, MOST)
OMEGAS = (0.0, -0.0, 1.0, 0.5, 1.7, 1.99, 2.0, 2.5, -0.3, -1.0, 1e30, -1e30, 1e300, value(LARGEST), -value(LARGEST),
          1e-5, 1e-300, 5e-324, -5e-324)
SIDES = ((1, 1), (2, 1), (1, 2), (3, 1), (1, 3), (2, 2), (3, 2), (2, 3), (3, 3), (5, 4))


def set_all(cols, rows, seed=1):
    chance = Chance(seed)
    return [set_values(x, y, chance.between(0.5, 1.5), chance.between(-0.2, 0.2), chance.between(-0.2, 0.2))
            for y in range(rows) for x in range(cols)]


def show(cols, rows):
    return (*get_all(cols, rows), mass())


class Count(Checked):
    def test_none_changes_nothing(self):
        ahead = (begin(3, 2), *set_all(3, 2), wall(1, 1))
        self.assertEqual(told(*ahead, step(0), *show(3, 2))[7:], [[0], [0]] + told(*ahead, *show(3, 2))[8:])

    def test_none_does_not_fail(self):
        self.assertEqual(told(begin(1, 1), set_values(0, 0, 0.0), step(1), step(0)), [[0], [0], [-4], [0]])

    def test_wrong_counts(self):
        for n in WRONG_COUNTS:
            self.assertEqual(told(begin(3, 2), step(n)), [[0], [-2]])

    def test_a_wrong_count_is_told_ahead_of_failing(self):
        for n in WRONG_COUNTS:
            self.assertEqual(told(begin(1, 1), set_values(0, 0, 0.0), step(n), step()), [[0], [0], [-2], [-4]])

    def test_a_wrong_count_changes_nothing(self):
        ahead = (begin(3, 2), *set_all(3, 2), wall(1, 1))
        shown = told(*ahead, *show(3, 2))[8:]
        for n in WRONG_COUNTS:
            self.assertEqual(told(*ahead, step(n), *show(3, 2))[8:], [[-2]] + shown)

    def test_one_and_several(self):
        for cols, rows in SIDES:
            for n in (1, 2, 3, 10):
                want = self.check(begin(cols, rows), *set_all(cols, rows), step(n), *show(cols, rows))
                self.assertNotIn([-4], want)

    def test_at_once_as_one_by_one(self):
        for cols, rows in ((1, 1), (2, 1), (3, 2)):
            ahead = (begin(cols, rows), *set_all(cols, rows))
            steps = [step() for _ in range(12)]
            one_by_one = told(*ahead, *steps, *show(cols, rows))[-cols * rows - 1:]
            for first in (0, 1, 5, 11, 12):
                parts = (step(first), step(12 - first))
                self.assertEqual(told(*ahead, *parts, *show(cols, rows))[-cols * rows - 1:], one_by_one)

    def test_shares_that_only_move_come_round(self):
        # With omega 0 all is as it was after as many steps as both sides divide.
        ahead = (begin(3, 2, 0), *set_all(3, 2))
        model = Model(3, 2, 0)
        for call in ahead[1:]:
            model.set_flow(*call[1:])
        shown = [[model.get(x, y) for y in range(2) for x in range(3)]]
        for _ in range(5):
            model.step(1)
            shown.append([model.get(x, y) for y in range(2) for x in range(3)])
        for n in (*range(40), 999995, 999996, 999997, 999998, 999999, 1000000):
            self.assertEqual(told(*ahead, step(n), *get_all(3, 2))[-6:], shown[n % 6], n)

    def check_round(self, cols, rows, omega, seed, first, length):
        """The cells come round every length steps, but only from the first-th on."""
        sets = set_all(cols, rows, seed)
        model = Model(cols, rows, bits(omega))
        for call in sets:
            model.set_flow(*call[1:])
        states = [model.cells]
        while len(states) < first + length:
            model.step(1)
            states.append(model.cells)
        model.step(1)
        self.assertEqual(model.cells, states[first])
        self.assertNotEqual(states[first + length - 1], states[max(first - 1, 0)])
        for n in (*range(first + 3 * length + 5), 4095, 4096, 5000, 999999, 1000000):
            model.cells = states[n if n < first else first + (n - first) % length]
            want = [model.get(x, y) for y in range(rows) for x in range(cols)]
            got = told(begin(cols, rows, bits(omega)), *sets, step(n), *get_all(cols, rows))[-cols * rows:]
            self.assertEqual(got, want, n)

    def test_rounds_that_begin_later(self):
        self.check_round(1, 1, 1.2, 8, 2, 1)
        self.check_round(1, 1, 1.7, 8, 15, 2)
        self.check_round(1, 1, 1.5, 8, 38, 24)

    def test_a_large_grid_at_rest(self):
        # Takes too long for any test where like cells are not worked out together and rounds are not left out.
        small = told(begin(1, 1), step(1000000), get(0, 0))[-1]
        self.assertEqual(told(begin(256, 256), step(1000000), get(0, 0), get(255, 255))[-2:], [small, small])


class Easing(Checked):
    def test_one_cell_written_out(self):
        # With omega 1 a cell's shares become those at rest in its flow; that of the weights is of rho 1 + 2^-52.
        grid = Grid()
        grid.begin(1, 1, ONE)
        grid.step(1)
        self.assertEqual(grid.shares, [tuple(bits(f) for f in helper.shares_at_rest(1.0 + 2.0 ** -52, 0.0, 0.0))])

    def test_every_omega(self):
        for omega in OMEGAS:
            for cols, rows in ((1, 1), (3, 2)):
                ahead = (begin(cols, rows, bits(omega)), *set_all(cols, rows, 3))
                self.check(*ahead, step(), *show(cols, rows), step(), *show(cols, rows), step(4), *show(cols, rows))

    def test_mixed_shares_bit_by_bit(self):
        # Shares far from rest, so that f - r is large and another order of the products and differences shows.
        words = pseudo_random_bits(51)
        for omega in OMEGAS:
            for _ in range(25):
                self.check_eased([0.05 + word / 2 ** 64 for word in islice(words, 9)], omega)

    def check_eased(self, shares, omega):
        of_bits = tuple(bits(share) for share in shares)
        try:
            want = tuple(bits(share) for share in helper.eased(shares, omega))
        except Fails:
            with self.assertRaises(NotFinite):
                eased_cell(of_bits, bits(omega))
            return False
        self.assertEqual(eased_cell(of_bits, bits(omega)), want, (shares, omega))
        return True

    def test_signs_of_zero(self):
        for omega in (0.0, -0.0, 1.0, 5e-324):
            for zero in (0.0, -0.0):
                for way in range(1, 9):
                    shares = [1.0] + [0.0] * 8
                    shares[way] = zero
                    self.assertTrue(self.check_eased(shares, omega))

    def test_the_flow_may_fail(self):
        for shares in ([0.0] * 9, [-0.0] * 9, [1e308] * 9, [1.0, 1e300, 0.0, -1e300, 0.0, 0.0, 0.0, 0.0, 1e-10]):
            self.assertFalse(self.check_eased(shares, 0.0))

    def test_the_shares_at_rest_may_fail(self):
        # ux is 2e200, whose square is too large; then 2e151, and only the share itself is.
        self.assertFalse(self.check_eased([0.0, 1e200, 0.0, -1e200, 0.0, 0.0, 0.0, 0.0, 1.0], 0.0))
        self.assertFalse(self.check_eased([0.0, 1e157, 0.0, -1e157, 0.0, 0.0, 0.0, 0.0, 1e6], 0.0))
        self.assertTrue(self.check_eased([0.0, 1e153, 0.0, -1e153, 0.0, 0.0, 0.0, 0.0, 1e3], 0.0))

    def test_the_first_difference_may_fail(self):
        # rho is 1.2e308 and does not flow: at rest the first share would be 0.53e308.
        shares = [-1.4e308, 0.65e308, 0.65e308, 0.65e308, 0.65e308, 0.0, 0.0, 0.0, 0.0]
        self.assertFalse(self.check_eased(shares, 0.0))
        self.assertTrue(self.check_eased([share * 0.9 for share in shares], 0.0))

    def test_the_product_may_fail(self):
        self.assertTrue(self.check_eased([0.1 * way for way in range(1, 10)], 1e300))
        self.assertFalse(self.check_eased([1e20 * way for way in range(1, 10)], 1e300))

    def test_the_last_difference_may_fail(self):
        # f - r is -1.44e308 for the first share, which itself is -1e308.
        shares = [-1e308, 0.5e308, 0.5e308, 0.5e308, 0.5e308, 0.0, 0.0, 0.0, 0.0]
        self.assertFalse(self.check_eased(shares, -1.0))
        self.assertTrue(self.check_eased(shares, 1.0))


class Moving(Checked):
    def moved(self, cols, rows, walls=()):
        """The shares behind a step in which they only move, and those before, by their columns and rows."""
        grid = Grid()
        grid.begin(cols, rows, 0)
        for call in set_all(cols, rows, 5):
            grid.set_flow(*call[1:])
        for x, y in walls:
            grid.wall(x, y, 1)
        before = {(x, y): grid.shares[y * cols + x] for x in range(cols) for y in range(rows)}
        self.assertEqual(len(set(share for shares in before.values() for share in shares)), cols * rows * 9)
        self.assertEqual(grid.step(1), 0)
        after = {(x, y): grid.shares[y * cols + x] for x in range(cols) for y in range(rows)}
        return before, after

    def test_each_way(self):
        before, after = self.moved(5, 4)
        came_from = ((2, 2), (1, 2), (2, 1), (3, 2), (2, 3), (1, 1), (3, 1), (3, 3), (1, 3))
        for way, place in enumerate(came_from):
            self.assertEqual(after[2, 2][way], before[place][way], way)

    def test_round_about_at_the_corners(self):
        before, after = self.moved(5, 4)
        first = ((0, 0), (4, 0), (0, 3), (1, 0), (0, 1), (4, 3), (1, 3), (1, 1), (4, 1))
        last = ((4, 3), (3, 3), (4, 2), (0, 3), (4, 0), (3, 2), (0, 2), (0, 0), (3, 0))
        for way in range(9):
            self.assertEqual(after[0, 0][way], before[first[way]][way], way)
            self.assertEqual(after[4, 3][way], before[last[way]][way], way)

    def test_small_grids(self):
        for cols, rows in SIDES:
            before, after = self.moved(cols, rows)
            for (x, y), shares in after.items():
                want = [before[(x - right) % cols, (y - down) % rows][way] for way, (right, down) in enumerate(WAYS)]
                self.assertEqual(list(shares), want, (cols, rows, x, y))

    def test_the_way_back_of_each_way(self):
        backs = (0, 3, 4, 1, 2, 7, 8, 5, 6)
        came_from = ((2, 2), (1, 2), (2, 1), (3, 2), (2, 3), (1, 1), (3, 1), (3, 3), (1, 3))
        for wall_way in range(1, 9):
            before, after = self.moved(5, 4, [came_from[wall_way]])
            for way, place in enumerate(came_from):
                want = before[2, 2][backs[way]] if way == wall_way else before[place][way]
                self.assertEqual(after[2, 2][way], want, (wall_way, way))
        # The share that goes no way comes back to no other, not even where all around are walls.
        before, after = self.moved(5, 4, came_from[1:])
        self.assertEqual(after[2, 2], tuple(before[2, 2][back] for back in backs))

    def test_the_way_back_round_about(self):
        for cols, rows, x, y in ((5, 4, 0, 0), (5, 4, 4, 3), (5, 4, 0, 3), (5, 4, 4, 0), (3, 3, 2, 0)):
            for wall_way in range(1, 9):
                there = ((x - WAYS[wall_way][0]) % cols, (y - WAYS[wall_way][1]) % rows)
                before, after = self.moved(cols, rows, [there])
                self.assertEqual(after[x, y][wall_way], before[x, y][way_back(wall_way)])

    def test_walls_shares_stay(self):
        walls = [(1, 1), (2, 1), (0, 0), (4, 3), (4, 0)]
        before, after = self.moved(5, 4, walls)
        for place in walls:
            self.assertEqual(after[place], before[place])

    def test_eased_shares_come_back_not_those_before(self):
        # The one cell between walls gets its own shares back, eased.
        self.check(begin(3, 1, bits(0.7)), set_values(1, 0, 1.2, 0.1, -0.1), wall(0, 0), wall(2, 0), step(),
                   *show(3, 1), step(), *show(3, 1))


class Walls(Checked):
    def check_walls(self, cols, rows, walls, omega=OMEGA):
        on = [wall(x, y) for x, y in walls]
        off = [wall(x, y, 0) for x, y in walls]
        want = self.check(begin(cols, rows, omega), *set_all(cols, rows, 7), *on, step(), *show(cols, rows), step(4),
                          *show(cols, rows), *off, *show(cols, rows), step(2), *show(cols, rows))
        self.assertNotIn([-4], want)

    def test_in_every_place_alone(self):
        for cols, rows in SIDES:
            for x in range(cols):
                for y in range(rows):
                    self.check_walls(cols, rows, [(x, y)])

    def test_every_choice_of_walls(self):
        for cols, rows in ((1, 1), (2, 1), (1, 2), (3, 1), (2, 2), (3, 2)):
            places = [(x, y) for x in range(cols) for y in range(rows)]
            for chosen in range(1 << len(places)):
                self.check_walls(cols, rows, [place for k, place in enumerate(places) if chosen >> k & 1])

    def test_along_the_edges_and_beside_each_other(self):
        self.check_walls(5, 4, [(x, 0) for x in range(5)])
        self.check_walls(5, 4, [(x, y) for x in range(5) for y in (0, 3)])
        self.check_walls(5, 4, [(0, y) for y in range(4)])
        self.check_walls(5, 4, [(x, y) for x in range(5) for y in range(4) if x in (0, 4) or y in (0, 3)])
        self.check_walls(5, 4, [(1, 1), (2, 1), (2, 2), (3, 2)])
        self.check_walls(5, 4, [(1, 1), (2, 2), (3, 3)])

    def test_a_walls_shares_are_there_again(self):
        ahead = (begin(3, 2), *set_all(3, 2), get(1, 1), wall(1, 1), step(5))
        answers = self.check(*ahead, get(1, 1), wall(1, 1, 0), get(1, 1), step(), get(1, 1))
        shown = answers[7]
        self.assertEqual([answers[10], answers[12]], [shown, shown])
        self.assertNotEqual(answers[14], shown)

    def test_set_on_a_wall_shows_when_it_is_none(self):
        self.check(begin(3, 2), *set_all(3, 2), wall(1, 1), step(), set_values(1, 1, 2.0, 0.3, 0.1), step(),
                   *show(3, 2), wall(1, 1, 0), step(), *show(3, 2))

    def test_a_wall_cannot_make_a_step_fail(self):
        zero = set_values(1, 1, 0.0)
        answers = self.check(begin(3, 2), *set_all(3, 2), zero, step(), wall(1, 1), step(3), *show(3, 2),
                             wall(1, 1, 0), step(), *show(3, 2))
        self.assertEqual([answers[8], answers[10], answers[19]], [[-4], [0], [-4]])

    def test_all_are_walls(self):
        walls = [wall(x, y) for x in range(3) for y in range(2)]
        zeros = [set_values(x, y, 0.0) for x in range(3) for y in range(2)]
        self.assertEqual(told(begin(3, 2), *zeros, *walls, step(), step(1000000), mass())[-3:], [[0], [0], [0, 0]])


class Failing(Checked):
    def check_fails(self, ahead, cols, rows, n):
        """Behind the failed steps all is as it was ahead of them."""
        answers = self.check(*ahead, *show(cols, rows), step(n), *show(cols, rows))
        count = cols * rows + 1
        self.assertEqual(answers[-count - 1], [-4])
        self.assertEqual(answers[-count:], answers[-2 * count - 1:-count - 1])

    def test_in_the_first_step_in_any_cell(self):
        for x in range(3):
            for y in range(2):
                for n in (1, 2, 1000000):
                    self.check_fails((begin(3, 2), *set_all(3, 2), set_values(x, y, 0.0)), 3, 2, n)

    def test_nothing_of_the_walls_changes_either(self):
        ahead = (begin(3, 2), *set_all(3, 2), set_values(2, 1, 0.0), wall(0, 1), step(), wall(0, 1, 0))
        self.check_fails(ahead, 3, 2, 1)

    def test_in_a_later_step(self):
        # Far above 2 the cells swing further with each step, until one fails.
        for omega, cols, rows in ((1e300, 2, 1), (1e150, 1, 3), (1e30, 3, 2), (1e30, 1, 1), (-1e30, 2, 2), (1e3, 1, 1)):
            ahead = (begin(cols, rows, bits(omega)), *set_all(cols, rows, 3))
            good = self.good_steps(ahead)
            self.assertGreaterEqual(good, 1)
            for n in (good + 1, good + 2, 1000000):
                self.check_fails(ahead, cols, rows, n)
            self.check(*ahead, step(good), *show(cols, rows))
            self.check_fails((*ahead, step(good)), cols, rows, 1)

    def good_steps(self, ahead):
        """How many steps go well, by the document."""
        count = 0
        while model_told(*ahead, step(count + 1))[-1] == [0]:
            count += 1
        return count

    def test_where_the_flow_is_got_but_too_fast(self):
        # In the middle rho is small and the large shares do not cancel in ux: it is finite, but ux ux is not.
        small = [set_values(x, y, 1.0) for y in range(3) for x in range(3)]
        ahead = (begin(3, 3, 0), *small, set_values(0, 1, 9e200), set_values(2, 1, -9e200), step())
        answers = self.check(*ahead, get(1, 1), step())
        self.assertEqual([len(answers[-2]), answers[-1]], [4, [-4]])
        self.check_fails(ahead, 3, 3, 1)
        self.check_fails(ahead[:-1], 3, 3, 2)

    def test_it_goes_on_behind_a_failure(self):
        self.check(begin(3, 2), *set_all(3, 2), set_values(2, 1, 0.0), step(), set_values(2, 1, 1.0), step(2),
                   *show(3, 2), begin(2, 2, bits(1e300)), *set_all(2, 2), step(9), step(), *show(2, 2))


class AnyLine(Checked):
    """Lines of calls as they come, most of them good, some wrong."""

    RHOS = (1.0, 0.9, 2.0, -1.0, 0.0, -0.0, 1e-310, 1e300, 1.7e308, -1.7e308)
    SPEEDS = (0.0, -0.0, 0.1, -0.1, 0.05, -0.3, 1.0, 1e-300, 1e100, 1e200)

    def any_begin(self, chance):
        omega = bits(chance.one_of((0.6, 1.0, 1.7, 1.9, 0.0, chance.between(0.0, 2.0), chance.one_of(OMEGAS))))
        return begin(1 + chance.below(4), 1 + chance.below(4), omega)

    def any_place(self, chance, cols, rows):
        if chance.below(12) == 0:
            return chance.one_of(((-1, 0), (cols, 0), (0, -1), (0, rows)))
        return chance.below(cols), chance.below(rows)

    def any_set(self, chance, place):
        if chance.below(3) > 0:
            return set_values(*place, chance.between(0.5, 1.5), chance.between(-0.3, 0.3), chance.between(-0.3, 0.3))
        if chance.below(6) == 0:
            return set_flow(*place, *[chance.one_of(helper.NOT_FINITE + (ONE, 0, SIGN)) for _ in range(3)])
        return set_values(*place, chance.one_of(self.RHOS), chance.one_of(self.SPEEDS), chance.one_of(self.SPEEDS))

    def any_call(self, chance, cols, rows):
        kind = chance.below(50)
        if kind == 0:
            return self.any_begin(chance)
        if kind == 1:
            return chance.one_of((begin(0, 3), begin(2, 257), begin(2, 3, chance.one_of(helper.NOT_FINITE))))
        place = self.any_place(chance, cols, rows)
        if kind < 10:
            return wall(*place, chance.one_of((0, 0, 1, 1, 1, 2)))
        if kind < 22:
            return self.any_set(chance, place)
        if kind < 32:
            return step(chance.one_of((0, 1, 1, 1, 2, 3, 7, -1, 1000001)))
        if kind < 36:
            return mass()
        return get(*place)

    def any_line(self, chance):
        calls = [self.any_begin(chance)]
        sides = calls[0][1:3]
        for _ in range(60):
            call = self.any_call(chance, *sides)
            calls.append(call)
            if call[0] == 0 and model_told(call) == [[0]]:
                sides = call[1:3]
        return calls

    def test_lines(self):
        answered = set()
        for seed in range(150):
            calls = self.any_line(Chance(1000 + seed))
            answers = self.check(*calls)
            answered.update((call[0], answer[0]) for call, answer in zip(calls, answers))
        want = {(0, 0), (0, -2), (0, -3), (1, 0), (1, -2), (2, 0), (2, -2), (2, -3), (2, -4), (3, 0), (3, -2), (3, -4),
                (4, 0), (4, -2), (4, -4), (5, 0), (5, -4)}
        self.assertEqual(answered, want)


if __name__ == "__main__":
    unittest.main()
