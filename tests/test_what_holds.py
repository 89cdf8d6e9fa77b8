"""Promise 8: what holds over the whole program; and lines drawn by a fixed seed, answered as the words say."""

import random
import unittest

from lines import asked, gun, line_answers, list_of, of, rank, runner, seen, split, start, strike

HOUR = 3600000
DAY = 86400000


class Words:
    """The document's words, as they stand, over calls that no bound refuses."""

    def __init__(self, line):
        self.asked = {}
        for call, *numbers in line:
            if call == 0:
                self.guns, self.runners, self.sights, self.struck = {}, [], set(), set()
                self.lack, self.least = numbers[0], numbers[2:]
            if call == 1:
                self.guns[numbers[0]] = numbers[1]
            if call == 2:
                self.runners.append(tuple(numbers))
            if call == 3:
                self.sights.add(tuple(numbers))
            if call == 4:
                (self.struck.add if numbers[1] else self.struck.discard)(numbers[0])

    def times(self, who, mat):
        return sorted(time for one, there, time in self.sights if (one, there) == (who, mat))

    def way(self, who):
        """Their times by mats, those that are not missing; None without a gun."""
        if self.runners[who][0] not in self.guns:
            return None
        shot = self.guns[self.runners[who][0]]
        way = {0: max([time for time in self.times(who, 0) if shot <= time <= shot + HOUR], default=shot)}
        for mat in range(1, len(self.least) + 1):
            last = max(way)
            fit = [time for time in self.times(who, mat) if time - way[last] >= sum(self.least[last:mat])]
            if fit:
                way[mat] = fit[0]
        return way

    def of(self, who):
        if who not in self.asked:
            self.asked[who] = self.find_of(who)
        return self.asked[who]

    def find_of(self, who):
        way, n = self.way(who), len(self.least)
        missing = 0 if way is None else n + 1 - len(way)
        has_last = way is not None and n in way
        times = [way[n] - way[0], way[n] - self.guns[self.runners[who][0]]] if has_last else [0, 0]
        if who in self.struck:
            state = 4
        elif has_last:
            state = 2 if missing <= self.lack else 3
        else:
            state = 1 if way is not None and any(one == who for one, mat, time in self.sights) else 0
        return [state] + times + [missing]

    def split(self, who, mat):
        way = self.way(who)
        return [-61] if way is None or mat not in way else [way[mat] - way[0]]

    def finished(self):
        return [who for who in range(len(self.runners)) if self.of(who)[0] == 2]

    def place_over_all(self, who):
        own, shot = self.of(who)[1:3]
        others = [self.of(other)[1:3] for other in self.finished()]
        return 1 + sum(1 for o, g in others if g < shot or (g == shot and o < own))

    def place_in_kind(self, who):
        own, shot = self.of(who)[1:3]
        others = [self.of(other)[1:3] for other in self.finished() if self.runners[other][1] == self.runners[who][1]]
        return 1 + sum(1 for o, g in others if o < own or (o == own and g < shot))

    def rank(self, who):
        return [self.place_over_all(who), self.place_in_kind(who)] if who in self.finished() else [-61]

    def list_of(self, kind):
        if kind == 8:
            told = sorted((self.place_over_all(who), who) for who in self.finished())
        else:
            told = sorted((self.place_in_kind(who), who) for who in self.finished() if self.runners[who][1] == kind)
        return [len(told)] + [who for place, who in told]

    def answers(self):
        who = range(len(self.runners))
        return ([self.of(one) for one in who] + [self.rank(one) for one in who]
                + [self.split(one, mat) for one in who for mat in range(1, len(self.least) + 1)]
                + [self.list_of(kind) for kind in range(9)])


def runners_of(line):
    return range(sum(1 for call in line if call[0] == 2))


def all_asks(line):
    """Every question that can be put behind a line, in the order in which Words answers."""
    n = line[0][2]
    who = runners_of(line)
    return ([of(one) for one in who] + [rank(one) for one in who]
            + [split(one, mat) for one in who for mat in range(1, n + 1)] + [list_of(kind) for kind in range(9)])


def all_answers(line):
    return asked(line, all_asks(line))


def of_answers(line):
    return asked(line, [of(who) for who in runners_of(line)])


def drawn_head(draw):
    """A start, guns and runners; spans and guns lie so close that like times and edges come often."""
    n = draw.randint(1, 8)
    spans = draw.choice(((1, 2), (1, 2, 3, 4), (5, 1000), (HOUR // 2, HOUR)))
    head = [start([draw.choice(spans) for mat in range(n)], draw.randint(0, 8) if draw.random() < 0.5 else n // 2)]
    head = head + [gun(wave, draw.choice((0, 1, 2, 10, 1000))) for wave in range(4) if draw.random() < 0.85]
    return head + [runner(draw.randrange(4), draw.choice((0, 1, draw.randrange(8)))) for k in range(draw.randint(1, 8))]


def drawn_sights(draw, head):
    spans = head[0][3:]
    who = runners_of(head)
    sights = []
    for k in range(draw.randint(0, 9 * len(who))):
        mat = draw.randrange(len(spans) + 1)
        time = draw.choice((0, 0, 1, 2, 10, 1000)) + draw.choice((0, 0, 0, HOUR)) + sum(spans[:mat])
        sights.append(seen(draw.choice(who), mat, max(0, min(DAY, time + draw.randint(-2, 3)))))
    return sights


def drawn_line(draw):
    head = drawn_head(draw)
    line = head + drawn_sights(draw, head)
    strikes = [strike(draw.choice(runners_of(head)), draw.randint(0, 1)) for k in range(2)]
    return line + strikes + [gun(draw.randrange(4), draw.randint(0, 10)) for k in range(draw.randint(0, 2))]


class AsTheWordsSay(unittest.TestCase):
    def test_drawn_lines(self):
        draw = random.Random(8)
        states = {0: 0, 1: 0, 2: 0, 3: 0, 4: 0}
        for k in range(800):
            line = drawn_line(draw)
            self.assertEqual(all_answers(line), Words(line).answers(), line)
            for answer in of_answers(line):
                states[answer[0]] = states[answer[0]] + 1
        # Were one state hardly drawn, these lines would prove little.
        self.assertGreater(min(states.values()), 100, states)

    def test_asked_between_what_is_told(self):
        draw = random.Random(80)
        for k in range(60):
            head = drawn_head(draw)
            tellings = drawn_sights(draw, head) + [gun(draw.randrange(4), draw.randint(0, 10)), strike(0, 1), strike(0, 0)]
            draw.shuffle(tellings)
            size = 1 + len(all_asks(head))
            tellings = tellings[:(2000 - len(head)) // size]
            line, expected = list(head), []
            for place, telling in enumerate(tellings):
                line = line + [telling] + all_asks(head)
                expected.append(Words(head + tellings[:place + 1]).answers())
            told = line_answers(line)[len(head):]
            self.assertEqual([told[place + 1:place + size] for place in range(0, len(told), size)], expected)


class WhatHolds(unittest.TestCase):
    def drawn(self, seed, how_many=150):
        draw = random.Random(seed)
        for k in range(how_many):
            head = drawn_head(draw)
            yield draw, head, drawn_sights(draw, head)

    def test_in_whichever_order_sights_are_told(self):
        for draw, head, sights in self.drawn(81):
            told = all_answers(head + sights)
            for k in range(3):
                draw.shuffle(sights)
                self.assertEqual(all_answers(head + sights), told)
            self.assertEqual(all_answers(head + sorted(sights)), told)
            self.assertEqual(all_answers(head + sorted(sights, reverse=True)), told)

    def test_told_twice_is_told_once(self):
        for draw, head, sights in self.drawn(82):
            self.assertEqual(all_answers(head + sights + sights[::-1]), all_answers(head + sights))

    def test_guns_ahead_of_sights_or_behind_or_between(self):
        for draw, head, sights in self.drawn(83):
            guns = [call for call in head if call[0] == 1]
            rest = [call for call in head if call[0] != 1]
            mixed = guns + sights
            draw.shuffle(mixed)
            told = all_answers(head + sights)
            self.assertEqual(all_answers(rest + sights + guns), told)
            self.assertEqual(all_answers(rest + mixed), told)

    def test_own_time_is_never_longer_than_the_gun_s(self):
        shorter = 0
        for draw, head, sights in self.drawn(84):
            for state, own_time, gun_time, missing in of_answers(head + sights):
                self.assertLessEqual(own_time, gun_time)
                shorter = shorter + (own_time < gun_time)
        self.assertGreater(shorter, 20)

    def test_times_at_mats_rise_and_nobody_is_faster_than_can_be(self):
        steps = 0
        for draw, head, sights in self.drawn(85):
            spans = head[0][3:]
            for who in runners_of(head):
                told = asked(head + sights, [split(who, mat) for mat in range(1, len(spans) + 1)])
                last, last_time = 0, 0
                for mat, (time,) in enumerate(told, start=1):
                    if time >= 0:
                        self.assertGreaterEqual(time - last_time, sum(spans[last:mat]))
                        last, last_time, steps = mat, time, steps + 1
                    else:
                        self.assertEqual(time, -61)
        self.assertGreater(steps, 500)

    def test_who_is_struck_out_and_let_in_again_is_where_they_were(self):
        for draw, head, sights in self.drawn(86):
            told = all_answers(head + sights)
            for who in runners_of(head):
                self.assertEqual(all_answers(head + sights + [strike(who, 1), strike(who, 0)]), told)
            out = [strike(who, 1) for who in runners_of(head)]
            let_in = [strike(who, 0) for who in runners_of(head)]
            self.assertEqual(all_answers(head + out + sights + let_in), told)

    def test_the_list_has_everybody_who_finished_once(self):
        for draw, head, sights in self.drawn(87):
            finished = [who for who, answer in enumerate(of_answers(head + sights)) if answer[0] == 2]
            lists = asked(head + sights, [list_of(kind) for kind in range(9)])
            self.assertEqual(sorted(lists[8][1:]), finished)
            self.assertEqual(sorted(who for answer in lists[:8] for who in answer[1:]), finished)
            self.assertEqual([answer[0] for answer in lists], [len(answer) - 1 for answer in lists])

    def test_asking_changes_nothing(self):
        for draw, head, sights in self.drawn(88, 40):
            asks = all_asks(head)
            told = asked(head + sights, asks + asks[::-1] + asks)
            first = told[:len(asks)]
            self.assertEqual(told, first + first[::-1] + first)


if __name__ == "__main__":
    unittest.main()
