"""The calls on one race, read from one list of whole numbers and answered in another."""

from matrace.race import Race, add_runner, add_sight, set_gun, set_struck, start_race
from matrace.results import answer_list, answer_of, answer_rank, answer_split

START = 0
GUN = 1
RUNNER = 2
SEEN = 3
STRIKE = 4
OF = 5
SPLIT = 6
RANK = 7

# By a call's number, how many numbers it has, this one too; of start only those ahead of least.
CALL_SIZES = (3, 3, 3, 4, 3, 2, 3, 2, 2)


def end_of_call(calls, place):
    end = place + CALL_SIZES[calls[place]]
    if calls[place] == START:
        return end + calls[end - 1]
    return end


def answer_telling(race, call):
    if call[0] == START:
        return start_race(race, call[1], call[3:])
    if call[0] == GUN:
        return set_gun(race, call[1], call[2])
    if call[0] == RUNNER:
        return add_runner(race, call[1], call[2])
    if call[0] == SEEN:
        return add_sight(race, call[1], call[2], call[3])
    return set_struck(race, call[1], call[2])


def answer_asking(race, call):
    if call[0] == OF:
        return answer_of(race, call[1])
    if call[0] == SPLIT:
        return answer_split(race, call[1], call[2])
    if call[0] == RANK:
        return answer_rank(race, call[1])
    # Only list is left: a call without a size has failed before.
    return answer_list(race, call[1])


def answer_call(race, call):
    if call[0] <= STRIKE:
        return [answer_telling(race, call)]
    return answer_asking(race, call)


def answers(calls):
    race = Race()
    given = []
    place = 0
    while place < len(calls):
        end = end_of_call(calls, place)
        answer = answer_call(race, calls[place:end])
        given.append(len(answer))
        given.extend(answer)
        place = end
    return given
