"""Promise 4: of."""

import unittest

from lines import WIDEST, asked, gun, line_answers, list_of, of, rank, runner, seen, split, start, strike

LEAST = [1000, 2000, 3000]


def race_of_one(sights, lack=0, guns=((1, 500),)):
    """A line with one runner, of wave 1 and kind 2; sights are mats and times."""
    line = [start(LEAST, lack), runner(1, 2)] + [gun(wave, time) for wave, time in guns]
    return line + [seen(0, mat, time) for mat, time in sights]


class Refused(unittest.TestCase):
    def test_runner_that_is_not_there(self):
        line = [start(LEAST), gun(0, 0)]
        self.assertEqual(asked(line, [of(0), of(1), of(WIDEST)]), [[-2], [-2], [-2]])
        line = line + [runner(), runner()]
        self.assertEqual(asked(line, [of(1), of(2), of(WIDEST)]), [[0, 0, 0, 3], [-2], [-2]])

    def test_48_runners(self):
        line = [start(LEAST)] + [runner()] * 48
        self.assertEqual(asked(line, [of(47), of(48)]), [[0, 0, 0, 0], [-2]])


class States(unittest.TestCase):
    def check(self, answer, sights, lack=0, guns=((1, 500),)):
        line = race_of_one(sights, lack, guns)
        struck = [4] + answer[1:]
        asks = [of(0), strike(0, 1), of(0), strike(0, 1), of(0), strike(0, 0), of(0)]
        self.assertEqual(asked(line, asks), [answer, [0], struck, [0], struck, [0], answer])
        finished = [[1, 0]] if answer[0] == 2 else [[0]]
        self.assertEqual(asked(line, [list_of(2), list_of(8)]), finished * 2)
        self.assertEqual(asked(line, [rank(0)]), [[1, 1]] if answer[0] == 2 else [[-61]])

    def test_0_without_a_sight(self):
        self.check([0, 0, 0, 3], [])

    def test_0_without_a_gun_and_without_a_sight(self):
        self.check([0, 0, 0, 0], [], guns=())

    def test_0_without_a_gun(self):
        self.check([0, 0, 0, 0], [(0, 600), (1, 2000), (2, 5000), (3, 9000)], guns=())

    def test_0_the_gun_is_another_wave_s(self):
        self.check([0, 0, 0, 0], [(0, 600), (1, 2000), (2, 5000), (3, 9000)], guns=((0, 500), (2, 500), (3, 500)))

    def test_1_seen_wherever_it_was(self):
        self.check([1, 0, 0, 3], [(0, 600)])
        self.check([1, 0, 0, 2], [(1, 1500)])
        self.check([1, 0, 0, 2], [(2, 3500)])
        self.check([1, 0, 0, 1], [(0, 600), (1, 1600), (2, 3600)])

    def test_1_seen_though_it_counts_for_nothing(self):
        self.check([1, 0, 0, 3], [(0, 499)])
        self.check([1, 0, 0, 3], [(0, 3600501)])
        self.check([1, 0, 0, 3], [(1, 1499)])
        self.check([1, 0, 0, 3], [(3, 6499)])

    def test_1_without_the_last_mat_lack_does_not_help(self):
        self.check([1, 0, 0, 1], [(1, 1500), (2, 3500)], lack=8)
        self.check([1, 0, 0, 3], [(0, 600)], lack=8)

    def test_2_finished(self):
        self.check([2, 8400, 8500, 0], [(0, 600), (1, 2000), (2, 5000), (3, 9000)])
        self.check([2, 8500, 8500, 0], [(1, 2000), (2, 5000), (3, 9000)])
        self.check([2, 8500, 8500, 0], [(1, 2000), (2, 5000), (3, 9000)], lack=8)

    def test_2_as_many_missing_as_lack(self):
        self.check([2, 8500, 8500, 1], [(2, 5000), (3, 9000)], lack=1)
        self.check([2, 8400, 8500, 2], [(0, 600), (3, 9000)], lack=2)
        self.check([2, 8500, 8500, 2], [(3, 9000)], lack=8)

    def test_3_more_missing_than_lack(self):
        self.check([3, 8500, 8500, 1], [(2, 5000), (3, 9000)], lack=0)
        self.check([3, 8400, 8500, 1], [(0, 600), (1, 2000), (3, 9000)], lack=0)
        self.check([3, 8500, 8500, 2], [(3, 9000)], lack=1)
        self.check([3, 8500, 8500, 2], [(1, 1499), (2, 3499), (3, 9000)], lack=1)

    def test_eight_mats_and_each_lack(self):
        for lack in range(9):
            with self.subTest(lack=lack):
                line = [start([10] * 8, lack), gun(0, 0), runner(), seen(0, 8, 900)]
                self.assertEqual(asked(line, [of(0)]), [[2 if lack >= 7 else 3, 900, 900, 7]])

    def test_longest_times(self):
        self.check([2, 86400000, 86400000, 0], [(1, 1000), (2, 3000), (3, 86400000)], guns=((1, 0),))
        self.check([2, 82800000, 86400000, 2], [(0, 3600000), (3, 86400000)], 2, ((1, 0),))


class Guns(unittest.TestCase):
    SIGHTS = ((0, 600), (1, 2000), (2, 5000), (3, 9000))

    def test_told_later(self):
        line = race_of_one(self.SIGHTS, guns=())
        told = asked(line, [of(0), split(0, 3), rank(0), gun(1, 500), of(0), split(0, 3), rank(0), list_of(8)])
        self.assertEqual(told, [[0, 0, 0, 0], [-61], [-61], [0], [2, 8400, 8500, 0], [8400], [1, 1], [1, 0]])

    def test_told_anew(self):
        line = race_of_one(self.SIGHTS)
        asks = [gun(1, 600), of(0), gun(1, 601), of(0), gun(1, 1001), of(0), gun(1, 3001), of(0), gun(1, 9000), of(0),
                gun(1, 0), of(0), gun(1, 500), of(0)]
        told = [[2, 8400, 8400, 0], [2, 8399, 8399, 0], [3, 7999, 7999, 1], [1, 0, 0, 3], [1, 0, 0, 3],
                [2, 8400, 9000, 0], [2, 8400, 8500, 0]]
        self.assertEqual(asked(line, asks)[1::2], told)

    def test_refused_leaves_it(self):
        line = race_of_one(self.SIGHTS)
        told = asked(line, [gun(1, 86400001), of(0), gun(4, 0), of(0), gun(WIDEST, WIDEST), of(0)])
        self.assertEqual(told, [[-22], [2, 8400, 8500, 0]] * 3)

    def test_each_wave_has_its_own(self):
        line = [start([1000])] + [runner(wave, 0) for wave in range(4)] + [seen(who, 1, 9000) for who in range(4)]
        line = line + [gun(3, 4000), gun(0, 1000), gun(2, 3000)]
        told = [[2, 8000, 8000, 0], [0, 0, 0, 0], [2, 6000, 6000, 0], [2, 5000, 5000, 0]]
        self.assertEqual(asked(line, [of(who) for who in range(4)]), told)
        told[1] = [2, 7000, 7000, 0]
        self.assertEqual(asked(line + [gun(1, 2000)], [of(who) for who in range(4)]), told)

    def test_at_0_and_at_the_last_time(self):
        line = race_of_one(((3, 86400000),), 2, ((1, 0),))
        self.assertEqual(asked(line, [of(0), gun(1, 86400000), of(0)]),
                         [[2, 86400000, 86400000, 2], [0], [1, 0, 0, 3]])


class Starts(unittest.TestCase):
    LINE = race_of_one(((0, 600), (1, 2000), (3, 9000)), lack=1)
    ANSWER = [2, 8400, 8500, 1]

    def test_refused_leaves_all_as_it_was(self):
        for refused in (start([]), start([5] * 9), start([0]), start([5, 100000001]), start([5], 9), start(LEAST, 9)):
            with self.subTest(refused=refused):
                told = line_answers(self.LINE + [strike(0, 1), refused, of(0), strike(0, 0), of(0), list_of(2), split(0, 3)])
                self.assertEqual(told[len(self.LINE) + 1:],
                                 [[-22], [4] + self.ANSWER[1:], [0], self.ANSWER, [1, 0], [8400]])

    def test_answered_0_nothing_is_told_any_more(self):
        told = asked(self.LINE + [strike(0, 1), start(LEAST, 1)],
                     [of(0), split(0, 3), rank(0), list_of(2), list_of(8), runner(1, 2), of(0), seen(0, 3, 9000), of(0),
                      gun(1, 500), of(0), seen(0, 1, 2000), of(0)])
        self.assertEqual(told, [[-2], [-2], [-2], [0], [0], [0], [0, 0, 0, 0], [1], [0, 0, 0, 0],
                                [0], [3, 8500, 8500, 2], [1], [2, 8500, 8500, 1]])

    def test_answered_0_least_and_lack_are_the_new_ones(self):
        line = self.LINE + [start([10, 20], 0), gun(0, 0), runner(), seen(0, 2, 30)]
        self.assertEqual(asked(line, [of(0), split(0, 2), split(0, 3)]), [[3, 30, 30, 1], [30], [-22]])


if __name__ == "__main__":
    unittest.main()
