"""What the tests share: calls by their names, and a line of them answered."""

from matrace.clock import answers

WIDEST = 4294967295


def start(least, lack=0):
    return [0, lack, len(least)] + least


def gun(wave, time):
    return [1, wave, time]


def runner(wave=0, kind=0):
    return [2, wave, kind]


def seen(who, mat, time):
    return [3, who, mat, time]


def strike(who, on):
    return [4, who, on]


def of(who):
    return [5, who]


def split(who, mat):
    return [6, who, mat]


def rank(who):
    return [7, who]


def list_of(kind):
    return [8, kind]


def joined(line):
    return [number for call in line for number in call]


def split_answers(given):
    """The answers one by one, each a list; fails if the counts don't fit."""
    told = []
    place = 0
    while place < len(given):
        end = place + 1 + given[place]
        assert given[place] >= 1 and end <= len(given), given
        told.append(given[place + 1:end])
        place = end
    return told


def line_answers(line):
    """The answers to a line, each a list."""
    told = split_answers(answers(joined(line)))
    assert len(told) == len(line), told
    return told


def first_numbers(line):
    """Answers a line whose calls each answer one number alone."""
    told = line_answers(line)
    assert all(len(answer) == 1 for answer in told), told
    return [answer[0] for answer in told]


def asked(line, asks):
    """The answers to asks behind a line of which no call is refused."""
    told = line_answers(line + asks)
    assert all(answer[0] >= 0 for answer in told[:len(line)]), told
    return told[len(line):]
