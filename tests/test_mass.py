import unittest

from tests.helper import (LARGEST, SIGN, Chance, Checked, begin, get_all, mass, set_flow, set_values, step, told, value,
                          wall)


def set_all(chance, cols, rows):
    """Sets whose shares differ so much in size that another order of adding them up shows."""
    return [set_values(x, y, chance.between(0.5, 1.5) * 10.0 ** chance.below(8), chance.between(-0.5, 0.5),
                       chance.between(-0.5, 0.5)) for y in range(rows) for x in range(cols)]


class Mass(Checked):
    def test_behind_begin(self):
        for cols, rows in ((1, 1), (3, 2), (40, 1), (1, 40), (20, 20)):
            number = self.check(begin(cols, rows), mass())[-1]
            self.assertAlmostEqual(value(number[1]), cols * rows)

    def test_one_cell_written_out(self):
        self.assertEqual(told(begin(1, 1), mass()), [[0], [0, 0x3FF0000000000001]])

    def test_row_by_row_cell_by_cell_way_by_way(self):
        for cols, rows in ((1, 1), (2, 1), (1, 2), (3, 2), (2, 5), (4, 4)):
            for seed in range(6):
                self.check(begin(cols, rows), *set_all(Chance(31 + seed), cols, rows), mass())

    def test_large_ones_that_cancel_leave_what_comes_behind_them(self):
        # Row by row 1e30 and -1e30 lie beside each other; column by column the 1 between them would get lost.
        calls = (begin(2, 2), set_values(0, 0, 1e30), set_values(1, 0, -1e30), set_values(0, 1, 1.0), mass())
        row_by_row = self.check(*calls)[-1]
        calls = (begin(2, 2), set_values(0, 0, 1e30), set_values(0, 1, -1e30), set_values(1, 0, 1.0), mass())
        apart = self.check(*calls)[-1]
        self.assertNotEqual(row_by_row, apart)

    def test_it_begins_at_plus_zero(self):
        self.assertEqual(told(begin(1, 1), set_flow(0, 0, SIGN, 0, 0), mass())[-1], [0, 0])
        calls = (begin(2, 2), *[set_flow(x, y, SIGN, 0, 0) for x in range(2) for y in range(2)], mass())
        self.assertEqual(told(*calls)[-1], [0, 0])

    def test_walls_cells_do_not_count(self):
        sets = set_all(Chance(41), 3, 2)
        for walls in range(64):
            on = [wall(place % 3, place // 3) for place in range(6) if walls >> place & 1]
            self.check(begin(3, 2), *sets, *on, mass())

    def test_all_are_walls(self):
        for cols, rows in ((1, 1), (3, 2)):
            on = [wall(x, y) for x in range(cols) for y in range(rows)]
            self.assertEqual(told(begin(cols, rows), *on, mass())[-1], [0, 0])

    def test_a_wall_that_is_none_again_counts_again(self):
        sets = set_all(Chance(42), 3, 2)
        before, on, after = told(begin(3, 2), *sets, mass(), wall(1, 1), mass(), wall(1, 1, 0), mass())[-5::2]
        self.assertEqual(before, after)
        self.assertNotEqual(before, on)

    def test_a_walls_shares_stay_over_steps_and_count_again(self):
        self.check(begin(3, 2), *set_all(Chance(43), 3, 2), wall(1, 1), step(4), mass(), wall(1, 1, 0), mass())

    def test_behind_steps(self):
        for seed in range(4):
            self.check(begin(3, 3), *set_all(Chance(44 + seed), 3, 3), wall(0, 1), step(), mass(), step(7), mass())

    def test_a_sum_that_is_not_finite_fails(self):
        for rho in (LARGEST, SIGN | LARGEST):
            calls = (begin(2, 1), set_flow(0, 0, rho, 0, 0), set_flow(1, 0, rho, 0, 0), mass())
            self.assertEqual(self.check(*calls)[-1], [-4])

    def test_a_sum_on_the_way_that_is_not_finite_fails(self):
        # All together would be finite, and are so in another order.
        calls = [begin(3, 1), set_values(0, 0, 1e308), set_values(1, 0, 1e308), set_values(2, 0, -1e308), mass()]
        self.assertEqual(self.check(*calls)[-1], [-4])
        calls[2], calls[3] = set_values(1, 0, -1e308), set_values(2, 0, 1e308)
        self.assertEqual(len(self.check(*calls)[-1]), 2)
        # Within one cell, ahead of its last share.
        self.assertEqual(self.check(begin(1, 1), set_values(0, 0, 1.75e308, 1.0, 1.0), mass())[-1], [-4])

    def test_a_walls_cell_does_not_make_it_fail(self):
        sets = (set_values(0, 0, 1e308), set_values(1, 0, 1e308))
        answers = self.check(begin(2, 1), *sets, mass(), wall(1, 0), mass(), wall(1, 0, 0), mass())
        self.assertEqual([answer[0] for answer in answers[3:]], [-4, 0, 0, 0, -4])

    def test_mass_changes_nothing(self):
        ahead = (begin(3, 2), *set_all(Chance(45), 3, 2), wall(0, 1))
        behind = (step(3), *get_all(3, 2))
        self.assertEqual(told(*ahead, mass(), mass(), *behind)[-7:], told(*ahead, *behind)[-7:])


if __name__ == "__main__":
    unittest.main()
