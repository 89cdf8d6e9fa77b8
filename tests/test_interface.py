"""The interface: how calls and answers lie in their lists, and that nothing is kept or changed."""

import unittest

from lines import WIDEST, first_numbers, gun, joined, runner, seen, start, strike
from matrace.clock import answers


class Unchangeable(list):
    """A list that can't be changed, not for a while either."""

    def refuse(self, *values, **named):
        raise AssertionError("what is handed in was changed")

    append = extend = insert = pop = remove = clear = sort = reverse = refuse
    __setitem__ = __delitem__ = __iadd__ = __imul__ = refuse


SOME_LINE = [start([10, 20], 1), gun(2, 5), runner(2, 3), runner(4, 0), seen(0, 2, 9), seen(0, 2, 9), seen(0, 3, 9),
             seen(1, 0, 0), strike(0, 1), strike(0, 2), start([]), start([5]), runner()]
SOME_ANSWERS = [0, 0, 0, -22, 1, 0, -22, -2, 0, -22, -22, 0, 0]


class Lists(unittest.TestCase):
    def test_as_the_numbers_lie(self):
        calls = [0, 1, 2, 10, 20, 1, 2, 5, 2, 2, 3, 3, 0, 2, 9, 3, 0, 3, 9, 4, 0, 1, 2, 0, 0]
        self.assertEqual(answers(calls), [1, 0, 1, 0, 1, 0, 1, 1, 1, -22, 1, 0, 1, 1])

    def test_a_refused_start_is_read_whole(self):
        self.assertEqual(answers([0, 0, 0, 0, 0, 1, 5, 2, 0, 0]), [1, -22, 1, 0, 1, 0])
        self.assertEqual(answers([0, 9, 20] + [2] * 20 + [0, 8, 1, 5, 2, 0, 0]), [1, -22, 1, 0, 1, 0])

    def test_one_call_alone(self):
        self.assertEqual(answers([0, 0, 1, 1]), [1, 0])
        self.assertEqual(answers([0, 0, 0]), [1, -22])

    def test_whole_numbers_in_a_list(self):
        given = answers(joined(SOME_LINE))
        self.assertIs(type(given), list)
        self.assertEqual({type(number) for number in given}, {int})

    def test_an_ordinary_line(self):
        self.assertEqual(first_numbers(SOME_LINE), SOME_ANSWERS)


class Widest(unittest.TestCase):
    def test_each_number_alone_at_its_widest(self):
        line = [start([10, 20]), runner(), start([10], WIDEST), start([10, WIDEST]), gun(WIDEST, 0), gun(0, WIDEST),
                runner(WIDEST, 0), runner(0, WIDEST), seen(WIDEST, 0, 0), seen(0, WIDEST, 0), seen(0, 0, WIDEST),
                strike(WIDEST, 0), strike(0, WIDEST)]
        self.assertEqual(first_numbers(line), [0, 0, -22, -22, -22, -22, -22, -22, -2, -22, -22, -2, -22])

    def test_all_numbers_at_their_widest(self):
        line = [start([10, 20]), runner(), start([WIDEST] * 20, WIDEST), gun(WIDEST, WIDEST), runner(WIDEST, WIDEST),
                seen(WIDEST, WIDEST, WIDEST), strike(WIDEST, WIDEST), runner()]
        self.assertEqual(first_numbers(line), [0, 0, -22, -22, -22, -2, -2, 1])


class Long(unittest.TestCase):
    def test_2000_calls(self):
        sights = [seen(k % 48, k % 9, 86400000 - k) for k in range(1024)]
        line = [start([1000] * 8, 8)] + [gun(k % 4, k) for k in range(100)] + [runner(k % 4, k % 8) for k in range(49)]
        line = line + sights + [seen(0, 0, 0)] + sights[:700] + [strike(k, 1) for k in range(49)]
        told = [0] + [0] * 100 + list(range(48)) + [-28] + [1] * 1024 + [-28] + [0] * 700 + [0] * 48 + [-2]
        rest = 2000 - len(line)
        line = line + [start([])] * rest
        self.assertEqual(len(line), 2000)
        self.assertEqual(first_numbers(line), told + [-22] * rest)

    def test_30000_numbers(self):
        line = [start([WIDEST] * 20, WIDEST)] * 1304 + [start([1000]), runner()]
        self.assertLessEqual(len(joined(line)), 30000)
        self.assertEqual(first_numbers(line), [-22] * 1304 + [0, 0])


class NothingKept(unittest.TestCase):
    def test_what_is_handed_in_is_as_it_was(self):
        calls = joined(SOME_LINE)
        before = list(calls)
        answers(calls)
        self.assertEqual(calls, before)

    def test_what_is_handed_in_is_not_changed_for_a_while_either(self):
        calls = Unchangeable(joined(SOME_LINE))
        self.assertEqual(answers(calls), answers(list(calls)))

    def test_called_twice_with_the_same_list(self):
        calls = joined(SOME_LINE)
        first = answers(calls)
        second = answers(calls)
        self.assertEqual(first, second)
        self.assertIsNot(first, second)

    def test_another_line_between(self):
        calls = joined(SOME_LINE)
        first = answers(calls)
        answers(joined([start([7] * 8, 8)] + [runner()] * 48 + [seen(0, 0, k) for k in range(1024)]))
        self.assertEqual(answers(calls), first)


if __name__ == "__main__":
    unittest.main()
