"""Promise 1: start."""

import unittest

from lines import WIDEST, first_numbers, gun, runner, seen, start, strike
from matrace.race import Race, add_runner, add_sight, set_gun, set_struck, start_race


class Bounds(unittest.TestCase):
    def check(self, answer, least, lack=0):
        self.assertEqual(first_numbers([start(least, lack)]), [answer])

    def test_how_many_mats(self):
        for n, answer in ((0, -22), (1, 0), (2, 0), (7, 0), (8, 0), (9, -22), (20, -22)):
            with self.subTest(n=n):
                self.check(answer, [1000] * n)

    def test_one_of_least(self):
        for span, answer in ((0, -22), (1, 0), (100000000, 0), (100000001, -22), (WIDEST, -22)):
            with self.subTest(span=span):
                self.check(answer, [span])

    def test_one_of_least_wherever_it_stands(self):
        for place in range(8):
            for span, answer in ((0, -22), (1, 0), (100000000, 0), (100000001, -22), (WIDEST, -22)):
                with self.subTest(place=place, span=span):
                    least = [5000] * 8
                    least[place] = span
                    self.check(answer, least)

    def test_lack(self):
        for lack, answer in ((0, 0), (1, 0), (8, 0), (9, -22), (WIDEST, -22)):
            with self.subTest(lack=lack):
                self.check(answer, [1000], lack)
                self.check(answer, [1000] * 8, lack)

    def test_several_refusals_at_once(self):
        self.check(-22, [], 9)
        self.check(-22, [0] * 20, WIDEST)
        self.check(-22, [WIDEST] * 20, WIDEST)


class Again(unittest.TestCase):
    REFUSED = (start([]), start([7] * 9), start([7] * 20), start([0]), start([7, 100000001]),
               start([7], 9), start([WIDEST] * 20, WIDEST))

    def test_the_first_may_be_refused(self):
        line = list(self.REFUSED) + [start([10, 20]), runner(), seen(0, 2, 5), seen(0, 3, 5)]
        self.assertEqual(first_numbers(line), [-22] * len(self.REFUSED) + [0, 0, 1, -22])

    def test_refused_leaves_all_as_it_was(self):
        for refused in self.REFUSED:
            with self.subTest(refused=refused):
                line = [start([10, 20], 1), gun(0, 5), runner(), runner(), seen(1, 2, 9), refused,
                        runner(), seen(1, 2, 9), seen(1, 3, 9), seen(0, 2, 9), strike(2, 1), strike(3, 1)]
                self.assertEqual(first_numbers(line), [0, 0, 0, 1, 1, -22, 2, 0, -22, 1, 0, -2])

    def test_answered_0_nothing_is_told_any_more(self):
        line = [start([10, 20]), gun(0, 5), runner(), runner(), seen(1, 2, 9), strike(0, 1),
                start([10, 20]), seen(0, 1, 9), strike(0, 0), runner(), seen(1, 2, 9), runner(), seen(1, 2, 9)]
        self.assertEqual(first_numbers(line), [0, 0, 0, 1, 1, 0, 0, -2, -2, 0, -2, 1, 1])

    def test_answered_0_other_mats_count(self):
        line = [start([10]), runner(), seen(0, 2, 9), start([10, 20, 30]), runner(), seen(0, 3, 9), seen(0, 4, 9),
                start([10]), runner(), seen(0, 1, 9), seen(0, 2, 9)]
        self.assertEqual(first_numbers(line), [0, 0, -22, 0, 0, 1, -22, 0, 0, 1, -22])

    def test_answered_0_there_is_room_again(self):
        full = [runner()] * 48 + [seen(0, 0, time) for time in range(1024)]
        told = list(range(48)) + [1] * 1024
        line = [start([10])] + full[:500] + [start([10])] + full + [runner(), seen(0, 0, 1024)]
        self.assertEqual(first_numbers(line), [0] + told[:500] + [0] + told + [-28, -28])


class Kept(unittest.TestCase):
    def full_race(self):
        race = Race()
        start_race(race, 3, [10, 20])
        set_gun(race, 2, 77)
        add_runner(race, 2, 4)
        add_sight(race, 0, 1, 90)
        set_struck(race, 0, 1)
        return race

    def test_lack_and_least_are_kept_as_a_copy(self):
        race = Race()
        least = [10, 20]
        self.assertEqual(start_race(race, 3, least), 0)
        least.append(30)
        self.assertEqual((race.lack, race.least), (3, [10, 20]))

    def test_refused_keeps_guns_and_struck(self):
        race = self.full_race()
        self.assertEqual(start_race(race, 9, [5]), -22)
        self.assertEqual(start_race(race, 1, [5, 0]), -22)
        self.assertEqual((race.lack, race.least, race.guns, race.sight_count), (3, [10, 20], {2: 77}, 1))
        self.assertEqual([(one.wave, one.kind, one.struck) for one in race.runners], [(2, 4, True)])

    def test_answered_0_forgets_guns_and_struck(self):
        race = self.full_race()
        self.assertEqual(start_race(race, 0, [5]), 0)
        self.assertEqual((race.lack, race.least, race.guns, race.runners, race.sight_count), (0, [5], {}, [], 0))
        add_runner(race, 2, 4)
        self.assertEqual((race.runners[0].struck, race.runners[0].sights), (False, [{}, {}]))


if __name__ == "__main__":
    unittest.main()
