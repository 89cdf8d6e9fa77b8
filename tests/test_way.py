"""Somebody's way: their beginning, and the mats where they were."""

import itertools
import unittest

from lines import asked, gun, of, runner, seen, split, start

HOUR = 3600000
GUN = 10000000


class Beginning(unittest.TestCase):
    def own_and_gun_time(self, start_times, gun_time=GUN, end=GUN + 5000000):
        line = [start([1000]), gun(0, gun_time), runner(), seen(0, 1, end)]
        line = line + [seen(0, 0, time) for time in start_times]
        told = asked(line, [of(0), split(0, 1)])
        state, own_time, gun_time_told, missing = told[0]
        self.assertEqual((state, missing, told[1]), (2, 0, [own_time]))
        return own_time, gun_time_told

    def check(self, began, start_times):
        for times in itertools.permutations(start_times):
            with self.subTest(times=times):
                self.assertEqual(self.own_and_gun_time(times), (5000000 - began, 5000000))

    def test_no_sight_at_the_start(self):
        self.check(0, [])

    def test_before_the_gun(self):
        self.check(0, [GUN - 1])
        self.check(0, [0])

    def test_just_at_the_gun(self):
        self.check(0, [GUN])

    def test_just_behind_the_gun(self):
        self.check(1, [GUN + 1])

    def test_an_hour_behind_the_gun(self):
        self.check(HOUR - 1, [GUN + HOUR - 1])
        self.check(HOUR, [GUN + HOUR])

    def test_more_than_an_hour_behind_the_gun(self):
        self.check(0, [GUN + HOUR + 1])
        self.check(0, [86400000])

    def test_two_at_the_start_the_last_counts(self):
        self.check(700, [GUN + 300, GUN + 700])
        self.check(700, [GUN, GUN + 700])
        self.check(HOUR, [GUN, GUN + HOUR])

    def test_two_at_the_start_one_of_them_does_not_count(self):
        self.check(300, [GUN - 1, GUN + 300])
        self.check(300, [GUN + 300, GUN + HOUR + 1])
        self.check(HOUR, [GUN + HOUR, GUN + HOUR + 1])
        self.check(0, [GUN - 1, GUN])

    def test_two_at_the_start_none_of_them_counts(self):
        self.check(0, [GUN - 1, GUN + HOUR + 1])

    def test_many_at_the_start(self):
        self.check(900, [GUN - 50, GUN + 900, GUN + 20, GUN + HOUR + 1, GUN + 899])

    def test_gun_at_0(self):
        self.assertEqual(self.own_and_gun_time([0], 0, 9000), (9000, 9000))
        self.assertEqual(self.own_and_gun_time([0, 10], 0, 9000), (8990, 9000))
        self.assertEqual(self.own_and_gun_time([HOUR], 0, HOUR + 1000), (1000, HOUR + 1000))
        self.assertEqual(self.own_and_gun_time([HOUR + 1], 0, HOUR + 1000), (HOUR + 1000, HOUR + 1000))

    def test_an_hour_behind_the_gun_is_past_the_last_time(self):
        self.assertEqual(self.own_and_gun_time([86398000], 86390000, 86400000), (2000, 10000))

    def test_only_mat_0_is_the_start(self):
        line = [start([1000, 1000]), gun(0, 0), runner(), seen(0, 1, 5000), seen(0, 2, 9000)]
        self.assertEqual(asked(line, [of(0)]), [[2, 9000, 9000, 0]])

    def test_the_last_beginning_counts_though_a_mat_is_lost_by_it(self):
        line = [start([1000, 1000], 1), gun(0, 0), runner(), seen(0, 0, 100), seen(0, 1, 1100), seen(0, 2, 2500)]
        self.assertEqual(asked(line, [of(0), split(0, 1)]), [[2, 2400, 2500, 0], [1000]])
        line = line + [seen(0, 0, 101)]
        self.assertEqual(asked(line, [of(0), split(0, 1)]), [[2, 2399, 2500, 1], [-61]])
        line = line + [seen(0, 0, 501)]
        self.assertEqual(asked(line, [of(0), split(0, 2)]), [[1, 0, 0, 2], [-61]])


class Mats(unittest.TestCase):
    """The least spans are 1000, 2000 and 3000, and they began at 10000."""

    def check(self, splits, sights, least=(1000, 2000, 3000)):
        """splits: for each mat the time behind 10000, None where it's missing; sights: mats and times behind 10000."""
        line = [start(list(least), 8), gun(0, 10000), runner()]
        line = line + [seen(0, mat, 10000 + time) for mat, time in sights]
        asks = [split(0, mat) for mat in range(1, len(least) + 1)]
        told = asked(line, asks + [of(0)])
        self.assertEqual(told[:-1], [[-61] if one is None else [one] for one in splits])
        end = splits[-1]
        expected = [1 if sights else 0, 0, 0] if end is None else [2, end, end]
        self.assertEqual(told[-1], expected + [list(splits).count(None)])

    def test_no_sight(self):
        self.check([None, None, None], [])

    def test_all_just_fast_enough(self):
        self.check([1000, 3000, 6000], [(1, 1000), (2, 3000), (3, 6000)])

    def test_each_mat_just_too_fast(self):
        self.check([None, 3000, 6000], [(1, 999), (2, 3000), (3, 6000)])
        self.check([1000, None, 6000], [(1, 1000), (2, 2999), (3, 6000)])
        self.check([1000, 3000, None], [(1, 1000), (2, 3000), (3, 5999)])

    def test_slower_than_at_least(self):
        self.check([1500, 8000, 90000], [(1, 1500), (2, 8000), (3, 90000)])

    def test_least_is_counted_from_where_they_were_last(self):
        self.check([1500, None, 6500], [(1, 1500), (2, 3499), (3, 6500)])
        self.check([1500, 3500, None], [(1, 1500), (2, 3500), (3, 6499)])
        self.check([1500, 3500, 6500], [(1, 1500), (2, 3500), (3, 6500)])

    def test_several_sights_at_one_mat(self):
        self.check([1000, None, None], [(1, 1001), (1, 1000), (1, 999), (1, 5000), (1, 0)])
        self.check([1000, 3000, 6100], [(2, 2999), (3, 7000), (1, 2500), (2, 3000), (3, 6100), (1, 1000), (3, 5000)])

    def test_a_mat_seen_before_the_one_before_it(self):
        self.check([4000, None, None], [(1, 4000), (2, 3500), (3, 6000)])
        self.check([4000, None, 9000], [(1, 4000), (2, 3500), (3, 9000)])
        self.check([4000, None, None], [(1, 4000), (2, 3500), (3, 8999)])
        self.check([4000, 6000, 9000], [(1, 4000), (2, 3500), (2, 6000), (3, 9000)])

    def test_two_mats_seen_at_once(self):
        self.check([3000, None, None], [(1, 3000), (2, 3000), (3, 3000)])

    def test_seen_before_the_gun(self):
        self.check([None, None, None], [(1, -9000), (2, -7000), (3, -4000)])
        self.check([1000, None, None], [(1, -9000), (1, 1000), (2, -7000), (3, -4000)])

    def test_one_missing_and_just_fast_enough_over_two(self):
        self.check([None, 3000, None], [(2, 3000)])
        self.check([1200, None, 6200], [(1, 1200), (3, 6200)])

    def test_one_missing_and_just_too_fast_over_two(self):
        self.check([None, None, None], [(2, 2999)])
        self.check([1200, None, None], [(1, 1200), (3, 6199)])

    def test_the_last_mat_alone(self):
        self.check([None, None, 6000], [(3, 6000)])
        self.check([None, None, None], [(3, 5999)])
        self.check([None, None, 6000], [(3, 5999), (3, 6000), (3, 6001)])

    def test_all_but_the_last_mat(self):
        self.check([1000, 3000, None], [(1, 1000), (2, 3000)])

    def test_a_late_mat_1_counts_though_others_are_lost_by_it(self):
        self.check([50000, None, None], [(1, 50000), (2, 3000), (3, 6000)])

    def test_one_mat(self):
        self.check([1000], [(1, 1000)], [1000])
        self.check([None], [(1, 999)], [1000])

    def test_eight_mats(self):
        least = [1, 20, 300, 4000, 50000, 600000, 7000000, 80000]
        sums = [1, 21, 321, 4321, 54321, 654321, 7654321, 7734321]
        self.check(sums, [(mat + 1, time) for mat, time in enumerate(sums)], least)
        self.check([None] * 7 + sums[-1:], [(8, sums[-1])], least)
        self.check([None] * 8, [(8, sums[-1] - 1)], least)
        self.check([1, None, None, 4321, None, None, 7654321, None],
                   [(1, 1), (2, 20), (4, 4321), (7, 7654321), (8, 7734320)], least)

    def test_longer_than_any_time(self):
        self.check([None], [(1, 86390000)], [86390001])
        self.check([86390000], [(1, 86390000)], [86390000])
        self.check([None, None], [(1, 86390000), (2, 86390000)], [100000000, 100000000])
        self.check([5, None], [(1, 5), (2, 86390000)], [5, 100000000])

    def test_the_beginning_is_where_spans_count_from(self):
        line = [start([1000, 2000], 8), gun(0, 10000), runner(), seen(0, 0, 10500), seen(0, 1, 11499), seen(0, 2, 13500)]
        self.assertEqual(asked(line, [split(0, 1), split(0, 2)]), [[-61], [3000]])
        line = line + [seen(0, 1, 11500)]
        self.assertEqual(asked(line, [split(0, 1), split(0, 2)]), [[1000], [3000]])

    def test_others_sights_are_not_ones_own(self):
        line = [start([1000, 2000]), gun(0, 0), runner(), runner(), seen(0, 1, 1000), seen(1, 2, 3000), seen(1, 0, 7)]
        asks = [of(0), of(1), split(0, 1), split(0, 2), split(1, 1), split(1, 2)]
        self.assertEqual(asked(line, asks), [[1, 0, 0, 1], [1, 0, 0, 2], [1000], [-61], [-61], [-61]])


if __name__ == "__main__":
    unittest.main()
