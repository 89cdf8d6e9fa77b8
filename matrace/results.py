"""The calls that ask of a race: how far somebody is, and who finished in which place."""

from matrace.race import NO_RUNNER, OUT_OF_BOUNDS
from matrace.way import count_missing, find_gun_time, find_own_time, find_way, has_last_mat

NO_RESULT = -61

WAITING = 0
UNDER_WAY = 1
FINISHED = 2
MISSING_TOO_MANY = 3
STRUCK_OUT = 4

ALL_KINDS = 8


class Finish:
    def __init__(self, who, kind, own_time, gun_time):
        self.who = who
        self.kind = kind
        # What places go by: less is ahead, and the second time counts where the first is alike.
        self.over_all = (gun_time, own_time)
        self.in_kind = (own_time, gun_time)


def was_seen(runner):
    for times in runner.sights:
        if len(times) > 0:
            return True
    return False


def find_state(race, runner, way):
    if runner.struck:
        return STRUCK_OUT
    if has_last_mat(way):
        return FINISHED if count_missing(way) <= race.lack else MISSING_TOO_MANY
    if way is not None and was_seen(runner):
        return UNDER_WAY
    return WAITING


def all_finishes(race):
    finishes = []
    for who, runner in enumerate(race.runners):
        way = find_way(race, runner)
        if find_state(race, runner, way) == FINISHED:
            finishes.append(Finish(who, runner.kind, find_own_time(way), find_gun_time(way)))
    return finishes


def finishes_of_kind(race, kind):
    return [finish for finish in all_finishes(race) if finish.kind == kind]


def answer_of(race, who):
    if who >= len(race.runners):
        return [NO_RUNNER]
    runner = race.runners[who]
    way = find_way(race, runner)
    return [find_state(race, runner, way), find_own_time(way), find_gun_time(way), count_missing(way)]


def answer_split(race, who, mat):
    if who >= len(race.runners):
        return [NO_RUNNER]
    if mat < 1 or mat > len(race.least):
        return [OUT_OF_BOUNDS]
    way = find_way(race, race.runners[who])
    if way is None or way.times[mat] is None:
        return [NO_RESULT]
    return [way.times[mat] - way.times[0]]


def places_of(finish, finishes):
    ahead = [other for other in finishes if other.over_all < finish.over_all]
    ahead_in_kind = [other for other in finishes if other.kind == finish.kind and other.in_kind < finish.in_kind]
    return [1 + len(ahead), 1 + len(ahead_in_kind)]


def answer_rank(race, who):
    if who >= len(race.runners):
        return [NO_RUNNER]
    finishes = all_finishes(race)
    for finish in finishes:
        if finish.who == who:
            return places_of(finish, finishes)
    return [NO_RESULT]


def answer_list(race, kind):
    if kind > ALL_KINDS:
        return [OUT_OF_BOUNDS]
    # Finishes come by numbers, and sorted leaves like ones as they came.
    if kind == ALL_KINDS:
        finishes = sorted(all_finishes(race), key=lambda finish: finish.over_all)
    else:
        finishes = sorted(finishes_of_kind(race, kind), key=lambda finish: finish.in_kind)
    return [len(finishes)] + [finish.who for finish in finishes]
