"""Promises 6 and 7: rank and list."""

import unittest

from lines import WIDEST, asked, gun, list_of, of, rank, runner, seen, start, strike

GUN = 1000


def race_of(runners, lack=0):
    """A line with two mats; runners are (kind, own time, the gun's time), or (kind,) for one who didn't finish."""
    line = [start([100, 100], lack), gun(0, GUN)]
    for who, (kind, *times) in enumerate(runners):
        line.append(runner(0, kind))
        if times:
            own_time, gun_time = times
            line.append(seen(who, 0, GUN + gun_time - own_time))
            line.append(seen(who, 1, GUN + gun_time - 100))
            line.append(seen(who, 2, GUN + gun_time))
    return line


def ranks(line, how_many):
    return asked(line, [rank(who) for who in range(how_many)])


class RankRefused(unittest.TestCase):
    def test_runner_that_is_not_there(self):
        self.assertEqual(asked([start([100])], [rank(0)]), [[-2]])
        self.assertEqual(asked(race_of([(0, 500, 500)]), [rank(0), rank(1), rank(WIDEST)]), [[1, 1], [-2], [-2]])

    def test_not_finished(self):
        line = [start([100, 100]), gun(0, GUN)] + [runner()] * 4 + [runner(1, 0)]
        line = line + [seen(1, 1, GUN + 500), seen(2, 2, GUN + 500), seen(3, 1, GUN + 100), seen(3, 2, GUN + 500)]
        line = line + [strike(3, 1), seen(4, 1, GUN + 100), seen(4, 2, GUN + 500)]
        self.assertEqual([answer[0] for answer in asked(line, [of(who) for who in range(5)])], [0, 1, 3, 4, 0])
        self.assertEqual(ranks(line, 5), [[-61]] * 5)
        self.assertEqual(asked(line, [list_of(8), list_of(0)]), [[0], [0]])


class Places(unittest.TestCase):
    def test_one_alone(self):
        line = race_of([(3, 400, 500)])
        self.assertEqual(asked(line, [rank(0), list_of(8), list_of(3), list_of(2)]), [[1, 1], [1, 0], [1, 0], [0]])

    def test_over_all_by_the_gun_s_time_in_the_kind_by_ones_own(self):
        line = race_of([(1, 500, 900), (1, 600, 800), (1, 700, 700)])
        self.assertEqual(ranks(line, 3), [[3, 1], [2, 2], [1, 3]])
        self.assertEqual(asked(line, [list_of(8), list_of(1)]), [[3, 2, 1, 0], [3, 0, 1, 2]])

    def test_as_much_of_the_gun_s_time(self):
        line = race_of([(1, 600, 900), (1, 500, 900), (1, 700, 900)])
        self.assertEqual(ranks(line, 3), [[2, 2], [1, 1], [3, 3]])
        self.assertEqual(asked(line, [list_of(8), list_of(1)]), [[3, 1, 0, 2]] * 2)

    def test_as_much_of_their_own(self):
        line = race_of([(1, 500, 800), (1, 500, 900), (1, 500, 700)])
        self.assertEqual(ranks(line, 3), [[2, 2], [3, 3], [1, 1]])
        self.assertEqual(asked(line, [list_of(8), list_of(1)]), [[3, 2, 0, 1]] * 2)

    def test_both_orders_where_they_differ(self):
        line = race_of([(0, 600, 900), (0, 500, 900), (0, 500, 950), (0, 650, 850)])
        self.assertEqual(ranks(line, 4), [[3, 3], [2, 1], [4, 2], [1, 4]])
        self.assertEqual(asked(line, [list_of(8), list_of(0)]), [[4, 3, 1, 0, 2], [4, 1, 2, 0, 3]])

    def test_like_ones(self):
        line = race_of([(0, 700, 900), (0, 600, 800), (0, 600, 800), (0, 600, 800), (0, 500, 700)])
        self.assertEqual(ranks(line, 5), [[5, 5], [2, 2], [2, 2], [2, 2], [1, 1]])
        self.assertEqual(asked(line, [list_of(8), list_of(0)]), [[5, 4, 1, 2, 3, 0]] * 2)

    def test_all_alike(self):
        line = race_of([(who % 3, 600, 800) for who in range(48)])
        self.assertEqual(ranks(line, 48), [[1, 1]] * 48)
        told = asked(line, [list_of(kind) for kind in (0, 1, 2, 3, 8)])
        self.assertEqual(told, [[16] + list(range(kind, 48, 3)) for kind in range(3)] + [[0], [48] + list(range(48))])

    def test_kinds_count_apart(self):
        line = race_of([(0, 800, 900), (7, 700, 800), (0, 500, 600), (7, 600, 700), (4, 900, 1000)])
        self.assertEqual(ranks(line, 5), [[4, 2], [3, 2], [1, 1], [2, 1], [5, 1]])
        told = asked(line, [list_of(kind) for kind in range(9)])
        self.assertEqual(told, [[2, 2, 0], [0], [0], [0], [1, 4], [0], [0], [2, 3, 1], [5, 2, 3, 1, 0, 4]])

    def test_like_ones_of_other_kinds(self):
        line = race_of([(2, 600, 800), (1, 600, 800), (2, 500, 800), (1, 600, 800)])
        self.assertEqual(ranks(line, 4), [[2, 2], [2, 1], [1, 1], [2, 1]])
        self.assertEqual(asked(line, [list_of(8), list_of(1), list_of(2)]), [[4, 2, 0, 1, 3], [2, 1, 3], [2, 2, 0]])

    def test_only_who_finished_counts(self):
        line = race_of([(0, 800, 900), (0, 300, 300), (0,), (0, 700, 800)])
        told = asked(line, [strike(1, 1), rank(0), rank(1), rank(3), list_of(0), list_of(8),
                            strike(1, 0), rank(0), rank(1), rank(3), list_of(0), list_of(8)])
        self.assertEqual(told, [[0], [2, 2], [-61], [1, 1], [2, 3, 0], [2, 3, 0],
                                [0], [3, 3], [1, 1], [2, 2], [3, 1, 3, 0], [3, 1, 3, 0]])

    def test_who_misses_more_than_lack_does_not_count(self):
        line = [start([100, 100], 0), gun(0, GUN), runner(), runner(), seen(0, 2, GUN + 300),
                seen(1, 1, GUN + 100), seen(1, 2, GUN + 900)]
        self.assertEqual(asked(line, [rank(0), rank(1), list_of(0), list_of(8)]), [[-61], [1, 1], [1, 1], [1, 1]])
        line[0] = start([100, 100], 1)
        self.assertEqual(asked(line, [rank(0), rank(1), list_of(0), list_of(8)]), [[1, 1], [2, 2], [2, 0, 1], [2, 0, 1]])

    def test_waves_with_guns_of_their_own(self):
        line = [start([100]), gun(0, 1000), gun(1, 5000), runner(0, 0), runner(1, 0), runner(2, 0),
                seen(0, 1, 2000), seen(1, 1, 5900), seen(2, 1, 200)]
        told = asked(line, [list_of(8), rank(0), rank(1), rank(2), gun(1, 4800), list_of(8), rank(0), rank(1),
                            gun(2, 0), list_of(0), rank(2)])
        self.assertEqual(told, [[2, 1, 0], [2, 2], [1, 1], [-61], [0], [2, 0, 1], [1, 1], [2, 2],
                                [0], [3, 2, 0, 1], [1, 1]])


class ListCall(unittest.TestCase):
    def test_kind(self):
        line = race_of([(7, 500, 600)])
        self.assertEqual(asked(line, [list_of(7), list_of(8), list_of(9), list_of(WIDEST)]),
                         [[1, 0], [1, 0], [-22], [-22]])

    def test_nobody_there(self):
        self.assertEqual(asked([start([100])], [list_of(kind) for kind in range(10)]), [[0]] * 9 + [[-22]])

    def test_nobody_finished(self):
        line = race_of([(0,), (5,), (0,)])
        self.assertEqual(asked(line, [list_of(0), list_of(5), list_of(8)]), [[0], [0], [0]])
        line = race_of([(0,), (5, 700, 800), (0,)])
        self.assertEqual(asked(line, [list_of(0), list_of(5), list_of(8)]), [[0], [1, 1], [1, 1]])

    def test_by_numbers_where_alike_whatever_was_told_first(self):
        line = race_of([(2, 600, 800)] * 12)
        head = [call for call in line if call[0] != 3]
        sights = [call for call in line if call[0] == 3]
        self.assertEqual(asked(head + sights[::-1], [list_of(2), list_of(8)]), [[12] + list(range(12))] * 2)

    def test_each_kind_from_last_to_first(self):
        line = race_of([(who % 8, 900 - who, 950 - who) for who in range(48)])
        told = asked(line, [list_of(kind) for kind in range(9)])
        expected = [[6] + list(range(40 + kind, -1, -8)) for kind in range(8)]
        self.assertEqual(told, expected + [[48] + list(range(47, -1, -1))])


if __name__ == "__main__":
    unittest.main()
