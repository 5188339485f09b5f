"""Work and rest: a job's work, nights, duties, what's wrong with a work."""

from pilothall.days import DAY_MINUTES

IN_LEAVE = 2
LAPS = 3
DUTY_TOO_LONG = 4
WEEK_TOO_FULL = 5
TOO_MANY_NIGHTS = 6
WEEK_MINUTES = 10080


class Work:
    """From which minute to which a pilot works."""

    def __init__(self, begin, end):
        self.begin = begin
        self.end = end


class Duty:
    """A duty so far: its first work's beginning, its latest end, whether it is at a night, how many works it has."""

    def __init__(self, begin):
        self.begin = begin
        self.end = begin
        self.has_night = False
        self.work_count = 0


def job_work(job, rules):
    return Work(job.begin - rules.before, job.end + rules.behind)


def in_order(works):
    # Sorting leaves alike ones as they stand: those of the log in its order, a job asked about behind them.
    return sorted(works, key=lambda work: work.begin)


def is_at_night(work, day, rules):
    begin = day * DAY_MINUTES + rules.night_begin
    end = day * DAY_MINUTES + rules.night_end
    if rules.night_end <= rules.night_begin:
        end += DAY_MINUTES
    return work.begin < end and work.end > begin


def nights_of(work, rules):
    """The days at whose nights the work is."""
    # The night of the day before may still go on; days before the first have none.
    first = max(work.begin // DAY_MINUTES - 1, 0)
    last = work.end // DAY_MINUTES
    return [day for day in range(first, last + 1) if is_at_night(work, day, rules)]


def worked_nights(works, rules):
    """The days at whose nights there's work, as a dict of True."""
    worked = {}
    for work in works:
        for day in nights_of(work, rules):
            worked[day] = True
    return worked


def nights_in_row(worked, day):
    """How many nights in a row, the last of them that day's, are among the worked ones."""
    count = 0
    while day - count in worked:
        count += 1
    return count


def rest_behind(duty, rules):
    if duty.has_night:
        return rules.night_rest
    return rules.rest


def duty_for(duty, work, rules):
    """The duty that the work is of: the one so far, or a new one. None stands for no duty so far."""
    if duty is None or work.begin - duty.end >= rest_behind(duty, rules):
        return Duty(work.begin)
    return duty


def duty_with(duty, work, rules):
    """The duty that the work is of, the work with it. None stands for no duty so far."""
    own = duty_for(duty, work, rules)
    own.end = max(own.end, work.end)
    own.has_night = own.has_night or len(nights_of(work, rules)) > 0
    own.work_count += 1
    return own


def last_duty(works, rules):
    """The duty of the last of these works, which stand in order; None if there are none."""
    duty = None
    for work in works:
        duty = duty_with(duty, work, rules)
    return duty


def is_in_leave(work, leaves):
    for leave in leaves:
        if work.begin < leave.end and work.end > leave.begin:
            return True
    return False


def is_lapped(work, earlier):
    for other in earlier:
        if other.end > work.begin:
            return True
    return False


def minutes_within(work, begin, end):
    return max(min(work.end, end) - max(work.begin, begin), 0)


def minutes_between(works, begin, end):
    """The works' minutes between these two; works that lap count each."""
    return sum([minutes_within(work, begin, end) for work in works])


def has_too_many_nights(nights, worked, rules):
    for day in nights:
        if nights_in_row(worked, day) > rules.nights:
            return True
    return False


def wrong_with_each(works, leaves, rules):
    """For each of a pilot's works, which stand in order: the kinds, rising, of what's wrong with it."""
    told = []
    duty = None
    worked = {}
    for count, work in enumerate(works):
        nights = nights_of(work, rules)
        duty = duty_with(duty, work, rules)
        for day in nights:
            worked[day] = True
        kinds = []
        if is_in_leave(work, leaves):
            kinds.append(IN_LEAVE)
        if is_lapped(work, works[:count]):
            kinds.append(LAPS)
        if duty.end - duty.begin > rules.duty:
            kinds.append(DUTY_TOO_LONG)
        if minutes_between(works[:count + 1], work.end - WEEK_MINUTES, work.end) > rules.week:
            kinds.append(WEEK_TOO_FULL)
        if has_too_many_nights(nights, worked, rules):
            kinds.append(TOO_MANY_NIGHTS)
        told.append(kinds)
    return told
