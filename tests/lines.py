"""What the tests share: calls by their names, and a line of them answered."""

from matrace.clock import answers

WIDEST = 4294967295


def start(least, lack=0):
    return [0, lack, len(least)] + least


def gun(wave, time):
    return [1, wave, time]


def runner(wave=0, kind=0):
    return [2, wave, kind]


def seen(who, mat, time):
    return [3, who, mat, time]


def strike(who, on):
    return [4, who, on]


def joined(line):
    return [number for call in line for number in call]


def split_answers(given):
    """The answers one by one, each a list; fails if the counts don't fit."""
    told = []
    place = 0
    while place < len(given):
        end = place + 1 + given[place]
        assert given[place] >= 1 and end <= len(given), given
        told.append(given[place + 1:end])
        place = end
    return told


def first_numbers(line):
    """Answers a line whose calls each answer one number alone."""
    told = split_answers(answers(joined(line)))
    assert len(told) == len(line), told
    assert all(len(answer) == 1 for answer in told), told
    return [answer[0] for answer in told]
