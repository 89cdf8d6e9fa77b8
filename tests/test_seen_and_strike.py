"""Promise 3: seen and strike."""

import unittest

from lines import WIDEST, first_numbers, runner, seen, start, strike
from matrace.race import Race, add_runner, add_sight, set_struck, start_race

FULL_SIGHTS = [seen(k % 2, k % 3, k) for k in range(1024)]


def behind_two_runners(line, n=2):
    """The answers of what comes behind a start with n mats and two runners."""
    return first_numbers([start([1000] * n), runner(), runner()] + line)[3:]


class Seen(unittest.TestCase):
    def test_runner_that_is_not_there(self):
        line = [seen(0, 1, 5), seen(1, 1, 5), seen(2, 1, 5), seen(WIDEST, 1, 5)]
        self.assertEqual(behind_two_runners(line), [1, 1, -2, -2])
        self.assertEqual(first_numbers([start([1000]), seen(0, 0, 0)]), [0, -2])

    def test_mat(self):
        for n in range(1, 9):
            with self.subTest(n=n):
                line = [seen(0, 0, 5), seen(0, 1, 5), seen(0, n, 6), seen(0, n + 1, 5), seen(0, WIDEST, 5)]
                self.assertEqual(behind_two_runners(line, n), [1, 1, 1, -22, -22])

    def test_time(self):
        line = [seen(0, 1, 0), seen(0, 1, 86400000), seen(0, 1, 86400001), seen(0, 1, WIDEST)]
        self.assertEqual(behind_two_runners(line), [1, 1, -22, -22])

    def test_the_same_told_twice(self):
        line = [seen(0, 1, 5), seen(0, 1, 5), seen(1, 1, 5), seen(0, 2, 5), seen(0, 1, 6),
                seen(0, 1, 5), seen(1, 1, 5), seen(0, 2, 5), seen(0, 1, 6)]
        self.assertEqual(behind_two_runners(line), [1, 0, 1, 1, 1, 0, 0, 0, 0])

    def test_neighbouring_numbers_are_not_mixed_up(self):
        line = [seen(0, 1, 2), seen(0, 2, 1), seen(1, 0, 2), seen(1, 2, 0), seen(0, 0, 12), seen(0, 1, 12), seen(0, 11, 2)]
        self.assertEqual(behind_two_runners(line), [1, 1, 1, 1, 1, 1, -22])

    def test_1024_at_most(self):
        line = FULL_SIGHTS + [seen(0, 0, 5000), seen(1, 2, 5000)]
        self.assertEqual(behind_two_runners(line), [1] * 1024 + [-28, -28])

    def test_told_twice_when_1024_were_told(self):
        line = FULL_SIGHTS + FULL_SIGHTS[:3] + [seen(0, 0, 5000)] + FULL_SIGHTS[-3:] + [seen(0, 0, 5000)]
        self.assertEqual(behind_two_runners(line)[1024:], [0, 0, 0, -28, 0, 0, 0, -28])

    def test_told_twice_and_refused_take_no_room(self):
        line = FULL_SIGHTS[:1023] + [FULL_SIGHTS[0]] * 5 + [seen(2, 0, 5), seen(0, 3, 5), seen(0, 0, 86400001)]
        line = line + [FULL_SIGHTS[1023], seen(0, 0, 5000)]
        self.assertEqual(behind_two_runners(line)[1023:], [0] * 5 + [-2, -22, -22, 1, -28])

    def test_several_refusals_due_at_once(self):
        line = [seen(2, 3, 5), seen(2, 1, 86400001), seen(WIDEST, WIDEST, WIDEST), seen(0, 3, 86400001)]
        self.assertEqual(behind_two_runners(line), [-2, -2, -2, -22])
        line = FULL_SIGHTS + line + [seen(2, 0, 0), seen(0, 3, 0), seen(0, 0, 86400001)]
        self.assertEqual(behind_two_runners(line)[1024:], [-2, -2, -2, -22, -2, -22, -22])

    def test_refused_is_not_told(self):
        race = Race()
        start_race(race, 0, [1000])
        add_runner(race, 0, 0)
        for who, mat, time in ((1, 0, 5), (0, 2, 5), (0, 0, 86400001)):
            self.assertLess(add_sight(race, who, mat, time), 0)
        self.assertEqual((race.runners[0].sights, race.sight_count), ([{}, {}], 0))
        add_sight(race, 0, 1, 5)
        add_sight(race, 0, 1, 5)
        self.assertEqual((race.runners[0].sights, race.sight_count), ([{}, {5: True}], 1))

    def test_who_is_struck_out_is_seen_too(self):
        line = [strike(0, 1), seen(0, 1, 5), strike(0, 0), seen(0, 1, 5)]
        self.assertEqual(behind_two_runners(line), [0, 1, 0, 0])


class Strike(unittest.TestCase):
    def test_runner_that_is_not_there(self):
        line = [strike(0, 1), strike(1, 1), strike(2, 1), strike(2, 0), strike(WIDEST, 1)]
        self.assertEqual(behind_two_runners(line), [0, 0, -2, -2, -2])
        self.assertEqual(first_numbers([start([1000]), strike(0, 0)]), [0, -2])

    def test_on(self):
        line = [strike(0, 0), strike(0, 1), strike(0, 1), strike(0, 0), strike(0, 2), strike(0, WIDEST)]
        self.assertEqual(behind_two_runners(line), [0, 0, 0, 0, -22, -22])

    def test_both_refusals_due_at_once(self):
        self.assertEqual(behind_two_runners([strike(2, 2), strike(WIDEST, WIDEST)]), [-2, -2])

    def test_struck_out_or_not(self):
        race = Race()
        start_race(race, 0, [1000])
        add_runner(race, 0, 0)
        add_runner(race, 0, 0)
        for who, on, struck in ((1, 1, [False, True]), (1, 2, [False, True]), (0, 1, [True, True]),
                                (1, 0, [True, False]), (0, 2, [True, False]), (2, 1, [True, False])):
            set_struck(race, who, on)
            self.assertEqual([one.struck for one in race.runners], struck)


if __name__ == "__main__":
    unittest.main()
