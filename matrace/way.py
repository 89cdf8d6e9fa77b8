"""Somebody's way: when they began, and when they were at each mat."""

LATEST_BEGINNING = 3600000


class Way:
    def __init__(self, gun, times):
        self.gun = gun
        # By mats: at 0 their beginning, and None for a mat that is missing.
        self.times = times


def find_beginning(gun, start_times):
    # Without a sight it is the gun's time, and one just at the gun says the same: only later ones can change it.
    began = gun
    for time in start_times:
        if time > began and time <= gun + LATEST_BEGINNING:
            began = time
    return began


def first_time_from(times, earliest):
    first = None
    for time in times:
        if time >= earliest and (first is None or time < first):
            first = time
    return first


def find_way(race, runner):
    if runner.wave not in race.guns:
        return None
    gun = race.guns[runner.wave]
    earliest = find_beginning(gun, runner.sights[0])
    way_times = [earliest]
    for mat, span in enumerate(race.least, start=1):
        # From a missing mat no time is taken over, so that spans add up from where they were last.
        earliest = earliest + span
        time = first_time_from(runner.sights[mat], earliest)
        way_times.append(time)
        if time is not None:
            earliest = time
    return Way(gun, way_times)


def has_last_mat(way):
    return way is not None and way.times[-1] is not None


def count_missing(way):
    return 0 if way is None else way.times.count(None)


def find_own_time(way):
    return way.times[-1] - way.times[0] if has_last_mat(way) else 0


def find_gun_time(way):
    return way.times[-1] - way.gun if has_last_mat(way) else 0
