"""Promise 5: split."""

import unittest

from lines import WIDEST, asked, gun, runner, seen, split, start, strike

LINE = [start([1000, 2000, 3000]), gun(0, 500), runner(0, 0), runner(1, 0),
        seen(0, 0, 700), seen(0, 1, 2000), seen(0, 3, 9000), seen(1, 1, 2000), seen(1, 3, 9000)]


class Split(unittest.TestCase):
    def test_runner_that_is_not_there(self):
        self.assertEqual(asked(LINE, [split(2, 1), split(WIDEST, 1)]), [[-2], [-2]])
        self.assertEqual(asked([start([1000])], [split(0, 1)]), [[-2]])

    def test_mat(self):
        for n in range(1, 9):
            with self.subTest(n=n):
                line = [start([1000] * n), gun(0, 0), runner()] + [seen(0, mat, 1000 * mat) for mat in range(1, n + 1)]
                asks = [split(0, mat) for mat in (0, 1, n, n + 1, WIDEST)]
                self.assertEqual(asked(line, asks), [[-22], [1000], [1000 * n], [-22], [-22]])

    def test_the_start_is_no_mat_here(self):
        self.assertEqual(asked(LINE, [split(0, 0), split(1, 0)]), [[-22], [-22]])

    def test_wave_without_a_gun(self):
        self.assertEqual(asked(LINE, [split(1, 1), split(1, 2), split(1, 3)]), [[-61]] * 3)

    def test_not_there(self):
        self.assertEqual(asked(LINE, [split(0, 2)]), [[-61]])
        self.assertEqual(asked(LINE + [seen(0, 2, 3999)], [split(0, 2)]), [[-61]])

    def test_behind_their_beginning(self):
        self.assertEqual(asked(LINE, [split(0, 1), split(0, 3)]), [[1300], [8300]])
        self.assertEqual(asked(LINE + [seen(0, 2, 4000)], [split(0, 1), split(0, 2), split(0, 3)]),
                         [[1300], [3300], [8300]])

    def test_under_way(self):
        line = [start([1000, 2000, 3000]), gun(0, 500), runner(), seen(0, 2, 4000)]
        self.assertEqual(asked(line, [split(0, 1), split(0, 2), split(0, 3)]), [[-61], [3500], [-61]])

    def test_struck_out_or_not(self):
        asks = [split(0, 1), split(0, 2), split(0, 3)]
        self.assertEqual(asked(LINE + [strike(0, 1)], asks), asked(LINE, asks))

    def test_several_refusals_due_at_once(self):
        asks = [split(2, 0), split(2, 4), split(WIDEST, WIDEST), split(1, 0), split(1, 4), split(1, WIDEST)]
        self.assertEqual(asked(LINE, asks), [[-2], [-2], [-2], [-22], [-22], [-22]])


if __name__ == "__main__":
    unittest.main()
