"""Promise 2: gun and runner."""

import unittest

from lines import WIDEST, first_numbers, gun, runner, seen, start
from matrace.race import Race, add_runner, set_gun, start_race


def new_race():
    race = Race()
    start_race(race, 0, [1000])
    return race


class Gun(unittest.TestCase):
    def check(self, answer, wave, time):
        self.assertEqual(first_numbers([start([1000]), gun(wave, time)]), [0, answer])

    def test_wave(self):
        for wave, answer in ((0, 0), (1, 0), (2, 0), (3, 0), (4, -22), (WIDEST, -22)):
            with self.subTest(wave=wave):
                self.check(answer, wave, 60000)

    def test_time(self):
        for time, answer in ((0, 0), (1, 0), (86400000, 0), (86400001, -22), (WIDEST, -22)):
            with self.subTest(time=time):
                self.check(answer, 0, time)
                self.check(answer, 3, time)

    def test_both_out_of_bounds(self):
        self.check(-22, 4, 86400001)
        self.check(-22, WIDEST, WIDEST)

    def test_told_anew(self):
        line = [start([1000]), gun(1, 5), gun(1, 5), gun(1, 86400000), gun(1, 0), gun(1, 86400001), gun(1, 7)]
        self.assertEqual(first_numbers(line), [0, 0, 0, 0, 0, -22, 0])

    def test_what_is_told_last_counts(self):
        race = new_race()
        self.assertEqual(race.guns, {})
        for wave, time in ((1, 500), (3, 0), (1, 300), (0, 86400000), (1, 400)):
            self.assertEqual(set_gun(race, wave, time), 0)
        self.assertEqual(race.guns, {0: 86400000, 1: 400, 3: 0})

    def test_refused_leaves_the_guns_as_they_were(self):
        race = new_race()
        set_gun(race, 1, 500)
        for wave, time in ((1, 86400001), (4, 500), (WIDEST, WIDEST)):
            self.assertEqual(set_gun(race, wave, time), -22)
        self.assertEqual(race.guns, {1: 500})


class RunnerCall(unittest.TestCase):
    def check(self, answer, wave, kind):
        self.assertEqual(first_numbers([start([1000]), runner(wave, kind)]), [0, answer])

    def test_wave(self):
        for wave, answer in ((0, 0), (3, 0), (4, -22), (WIDEST, -22)):
            with self.subTest(wave=wave):
                self.check(answer, wave, 7)

    def test_kind(self):
        for kind, answer in ((0, 0), (7, 0), (8, -22), (WIDEST, -22)):
            with self.subTest(kind=kind):
                self.check(answer, 3, kind)

    def test_both_out_of_bounds(self):
        self.check(-22, 4, 8)
        self.check(-22, WIDEST, WIDEST)

    def test_numbers_from_0_and_48_at_most(self):
        line = [start([1000])] + [runner(k % 4, k % 8) for k in range(50)]
        self.assertEqual(first_numbers(line), [0] + list(range(48)) + [-28, -28])

    def test_refused_is_not_numbered(self):
        line = [start([1000]), runner(), runner(4, 0), runner(0, 8), seen(1, 0, 5), runner(), seen(1, 0, 5)]
        self.assertEqual(first_numbers(line), [0, 0, -22, -22, -2, 1, 1])

    def test_both_refusals_due_at_once(self):
        full = [start([1000])] + [runner()] * 48
        line = full + [runner(4, 0), runner(0, 8), runner(WIDEST, WIDEST), runner(3, 7), seen(48, 0, 0), seen(47, 0, 0)]
        self.assertEqual(first_numbers(line)[49:], [-22, -22, -22, -28, -2, 1])

    def test_wave_and_kind_are_kept_and_nobody_is_struck_out_at_first(self):
        race = new_race()
        for wave, kind in ((3, 7), (0, 2)):
            add_runner(race, wave, kind)
        add_runner(race, 4, 0)
        self.assertEqual([(one.wave, one.kind, one.struck) for one in race.runners], [(3, 7, False), (0, 2, False)])

    def test_a_wave_needs_no_gun(self):
        self.assertEqual(first_numbers([start([1000]), runner(2, 0), gun(2, 5), runner(2, 0)]), [0, 0, 0, 1])


if __name__ == "__main__":
    unittest.main()
