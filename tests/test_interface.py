"""The interface: how calls and answers lie in their lists, and that nothing is kept or changed."""

import unittest

from lines import (WIDEST, asked, first_numbers, gun, joined, line_answers, list_of, of, rank, runner, seen, split,
                   start, strike)
from matrace.clock import answers


class Unchangeable(list):
    """A list that can't be changed, not for a while either."""

    def refuse(self, *values, **named):
        raise AssertionError("what is handed in was changed")

    append = extend = insert = pop = remove = clear = sort = reverse = refuse
    __setitem__ = __delitem__ = __iadd__ = __imul__ = refuse


SOME_LINE = [start([10, 20], 1), gun(2, 5), runner(2, 3), runner(4, 0), seen(0, 2, 90), seen(0, 2, 90), seen(0, 3, 9),
             seen(1, 0, 0), of(0), of(1), split(0, 1), split(0, 2), split(0, 3), rank(0), rank(1), list_of(3), list_of(8),
             list_of(9), strike(0, 1), strike(0, 2), of(0), rank(0), list_of(3), start([]), start([5]), runner(), of(0)]
SOME_ANSWERS = [[0], [0], [0], [-22], [1], [0], [-22],
                [-2], [2, 85, 85, 1], [-2], [-61], [85], [-22], [1, 1], [-2], [1, 0], [1, 0],
                [-22], [0], [-22], [4, 85, 85, 1], [-61], [0], [-22], [0], [0], [0, 0, 0, 0]]


class Lists(unittest.TestCase):
    def test_as_the_numbers_lie(self):
        calls = [0, 1, 2, 10, 20, 1, 2, 5, 2, 2, 3, 3, 0, 2, 9, 3, 0, 3, 9, 4, 0, 1, 2, 0, 0]
        self.assertEqual(answers(calls), [1, 0, 1, 0, 1, 0, 1, 1, 1, -22, 1, 0, 1, 1])

    def test_as_the_numbers_of_what_is_asked_lie(self):
        calls = [0, 0, 1, 10, 1, 2, 5, 2, 2, 3, 2, 2, 3, 3, 1, 1, 25, 3, 0, 1, 35, 3, 0, 0, 6]
        told = [1, 0, 1, 0, 1, 0, 1, 1, 1, 1, 1, 1, 1, 1]
        self.assertEqual(answers(calls), told)
        asks = [5, 0, 5, 2, 6, 0, 1, 6, 0, 2, 7, 0, 7, 2, 8, 3, 8, 4, 8, 8, 8, 9, 5, 1]
        self.assertEqual(answers(calls + asks), told + [4, 2, 29, 30, 0, 1, -2, 1, 29, 1, -22, 2, 2, 2, 1, -2,
                                                        3, 2, 1, 0, 1, 0, 3, 2, 1, 0, 1, -22, 4, 2, 20, 20, 0])

    def test_a_refused_start_is_read_whole(self):
        self.assertEqual(answers([0, 0, 0, 0, 0, 1, 5, 2, 0, 0]), [1, -22, 1, 0, 1, 0])
        self.assertEqual(answers([0, 9, 20] + [2] * 20 + [0, 8, 1, 5, 2, 0, 0]), [1, -22, 1, 0, 1, 0])

    def test_one_call_alone(self):
        self.assertEqual(answers([0, 0, 1, 1]), [1, 0])
        self.assertEqual(answers([0, 0, 0]), [1, -22])

    def test_whole_numbers_in_a_list(self):
        given = answers(joined(SOME_LINE))
        self.assertIs(type(given), list)
        self.assertEqual({type(number) for number in given}, {int})

    def test_an_ordinary_line(self):
        self.assertEqual(line_answers(SOME_LINE), SOME_ANSWERS)


class Widest(unittest.TestCase):
    def test_each_number_alone_at_its_widest(self):
        line = [start([10, 20]), runner(), start([10], WIDEST), start([10, WIDEST]), gun(WIDEST, 0), gun(0, WIDEST),
                runner(WIDEST, 0), runner(0, WIDEST), seen(WIDEST, 0, 0), seen(0, WIDEST, 0), seen(0, 0, WIDEST),
                strike(WIDEST, 0), strike(0, WIDEST)]
        self.assertEqual(first_numbers(line), [0, 0, -22, -22, -22, -22, -22, -22, -2, -22, -22, -2, -22])

    def test_each_number_of_what_is_asked_at_its_widest(self):
        line = [start([10, 20]), gun(0, 0), runner(), seen(0, 1, 10), seen(0, 2, 30)]
        asks = [of(WIDEST), split(WIDEST, 1), split(0, WIDEST), split(WIDEST, WIDEST), rank(WIDEST), list_of(WIDEST)]
        self.assertEqual(asked(line, asks), [[-2], [-2], [-22], [-2], [-2], [-22]])

    def test_all_numbers_at_their_widest(self):
        line = [start([10, 20]), runner(), start([WIDEST] * 20, WIDEST), gun(WIDEST, WIDEST), runner(WIDEST, WIDEST),
                seen(WIDEST, WIDEST, WIDEST), strike(WIDEST, WIDEST), runner()]
        self.assertEqual(first_numbers(line), [0, 0, -22, -22, -22, -2, -2, 1])


class Long(unittest.TestCase):
    def test_2000_calls(self):
        sights = [seen(k % 48, k % 9, 86400000 - k) for k in range(1024)]
        line = [start([1000] * 8, 8)] + [gun(k % 4, k) for k in range(100)] + [runner(k % 4, k % 8) for k in range(49)]
        line = line + sights + [seen(0, 0, 0)] + sights[:700] + [strike(k, 1) for k in range(49)]
        told = [0] + [0] * 100 + list(range(48)) + [-28] + [1] * 1024 + [-28] + [0] * 700 + [0] * 48 + [-2]
        rest = 2000 - len(line)
        line = line + [start([])] * rest
        self.assertEqual(len(line), 2000)
        self.assertEqual(first_numbers(line), told + [-22] * rest)

    def long_race(self):
        """48 runners, 8 mats, 1,024 sights: all but runner 47 are seen at all mats, 47 late at the last one alone."""
        line = [start([1000] * 8, 7)] + [gun(wave, 0) for wave in range(4)]
        line = line + [runner(who % 4, who % 8) for who in range(48)]
        sights = [seen(who, mat, 2000 * mat + 48 - who) for mat in range(8, -1, -1) for who in range(47)]
        sights = sights + [seen(47, 8, 86400000)]
        sights = sights + [seen(time % 48, time % 8 + 1, 50000 + time) for time in range(1024 - len(sights))]
        self.assertEqual(len(sights), 1024)
        return line + sights

    def check_long_line(self, asks, told):
        line = self.long_race()
        rest = 2000 - len(line)
        asks = (asks * rest)[:rest]
        self.assertEqual(len(line + asks), 2000)
        self.assertEqual(asked(line, asks), (told * rest)[:rest])

    def test_2000_calls_with_of_and_split(self):
        asks = [of(0), of(46), split(0, 1), split(46, 8), of(48), split(46, 9)]
        # 0 began at 48, 46 at 2.
        self.check_long_line(asks, [[2, 16000, 16048, 0], [2, 16000, 16002, 0], [2000], [16000], [-2], [-22]])

    def test_2000_calls_with_rank_and_list(self):
        # All own times are alike but that of 47, who's seen at mat 8 much later.
        over_all = list(range(46, -1, -1)) + [47]
        asks = [rank(46), rank(0), list_of(8), rank(47), list_of(7), list_of(0), seen(0, 8, 7)]
        told = [[1, 1], [47, 6], [48] + over_all, [48, 6], [6, 39, 31, 23, 15, 7, 47], [6, 40, 32, 24, 16, 8, 0], [-28]]
        self.check_long_line(asks, told)

    def test_1024_sights_of_one_runner(self):
        line = [start([1] * 8, 8), gun(0, 0), runner()] + [seen(0, k % 9, 5000 - k) for k in range(1024)]
        rest = 2000 - len(line)
        # At mat 0 the last is at 5000; behind it there's no sight.
        self.assertEqual(asked(line, [of(0), rank(0), list_of(8)] * (rest // 3)), [[1, 0, 0, 8], [-61], [0]] * (rest // 3))

    def test_30000_numbers(self):
        line = [start([WIDEST] * 20, WIDEST)] * 1304 + [start([1000]), runner()]
        self.assertLessEqual(len(joined(line)), 30000)
        self.assertEqual(first_numbers(line), [-22] * 1304 + [0, 0])


class NothingKept(unittest.TestCase):
    def test_what_is_handed_in_is_as_it_was(self):
        calls = joined(SOME_LINE)
        before = list(calls)
        answers(calls)
        self.assertEqual(calls, before)

    def test_what_is_handed_in_is_not_changed_for_a_while_either(self):
        calls = Unchangeable(joined(SOME_LINE))
        self.assertEqual(answers(calls), answers(list(calls)))

    def test_called_twice_with_the_same_list(self):
        calls = joined(SOME_LINE)
        first = answers(calls)
        second = answers(calls)
        self.assertEqual(first, second)
        self.assertIsNot(first, second)

    def test_another_line_between(self):
        calls = joined(SOME_LINE)
        first = answers(calls)
        answers(joined([start([7] * 8, 8)] + [runner()] * 48 + [seen(0, 0, k) for k in range(1024)]))
        self.assertEqual(answers(calls), first)


if __name__ == "__main__":
    unittest.main()
