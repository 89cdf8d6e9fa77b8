"""What is told of a race, and the calls that tell it."""

NO_RUNNER = -2
OUT_OF_BOUNDS = -22
NO_ROOM = -28

MOST_MATS = 8
LONGEST_LEAST = 100000000
MOST_LACK = 8
LAST_WAVE = 3
LAST_KIND = 7
LAST_TIME = 86400000
MOST_RUNNERS = 48
MOST_SIGHTS = 1024


class Runner:
    def __init__(self, wave, kind, mats):
        self.wave = wave
        self.kind = kind
        self.struck = False
        # For each mat, the start too, the times there as keys, so that a sight told twice is one.
        self.sights = [{} for mat in range(mats + 1)]


class Race:
    def __init__(self):
        self.least = []
        self.lack = 0
        self.guns = {}
        self.runners = []
        # The bound on sights is one for all runners together.
        self.sight_count = 0


def bad_least(least):
    if len(least) < 1 or len(least) > MOST_MATS:
        return True
    for span in least:
        if span < 1 or span > LONGEST_LEAST:
            return True
    return False


def start_race(race, lack, least):
    if bad_least(least) or lack > MOST_LACK:
        return OUT_OF_BOUNDS
    race.least = list(least)
    race.lack = lack
    race.guns = {}
    race.runners = []
    race.sight_count = 0
    return 0


def set_gun(race, wave, time):
    if wave > LAST_WAVE or time > LAST_TIME:
        return OUT_OF_BOUNDS
    race.guns[wave] = time
    return 0


def add_runner(race, wave, kind):
    if wave > LAST_WAVE or kind > LAST_KIND:
        return OUT_OF_BOUNDS
    number = len(race.runners)
    if number >= MOST_RUNNERS:
        return NO_ROOM
    race.runners.append(Runner(wave, kind, len(race.least)))
    return number


def add_sight(race, who, mat, time):
    if who >= len(race.runners):
        return NO_RUNNER
    if mat > len(race.least) or time > LAST_TIME:
        return OUT_OF_BOUNDS
    times = race.runners[who].sights[mat]
    # A sight told before is no refusal, so it is asked ahead of the bound.
    if time in times:
        return 0
    if race.sight_count >= MOST_SIGHTS:
        return NO_ROOM
    times[time] = True
    race.sight_count = race.sight_count + 1
    return 1


def set_struck(race, who, on):
    if who >= len(race.runners):
        return NO_RUNNER
    if on > 1:
        return OUT_OF_BOUNDS
    race.runners[who].struck = on == 1
    return 0
