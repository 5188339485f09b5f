"""Who may take a job, who stands in turn, who's chosen."""

from pilothall.days import DAY_MINUTES
from pilothall.works import in_order, job_work, wrong_with_each

NOT_LICENSED = 1
LAST_KIND = 6


class Entry:
    """An entry of the log: its number, its pilot's number, its job."""

    def __init__(self, number, pilot, job):
        self.number = number
        self.pilot = pilot
        self.job = job


def takes_ship(grade, ship):
    return ship.length <= grade.length and ship.draught <= grade.draught and ship.gross <= grade.gross


def is_good_for(licence, job):
    """Does the licence hold on the days of the job's two moments, for its ship?"""
    if job.begin // DAY_MINUTES < licence.first_day or job.end // DAY_MINUTES > licence.last_day:
        return False
    return takes_ship(licence.grade, job.ship)


def is_licensed(roster, pilot, job):
    good = [licence for licence in roster.licences if licence.pilot == pilot and is_good_for(licence, job)]
    for leg in job.legs:
        if not any([leg in licence.legs for licence in good]):
            return False
    return True


def pilot_works(roster, entries, pilot):
    return [job_work(entry.job, roster.rules) for entry in entries if entry.pilot == pilot]


def pilot_leaves(roster, pilot):
    return [leave for leave in roster.leaves if leave.pilot == pilot]


def why_not(roster, entries, pilot, job):
    """The kinds, rising, of why the pilot can't take the job; none if they may."""
    works = pilot_works(roster, entries, pilot)
    works.append(job_work(job, roster.rules))
    found = {}
    if not is_licensed(roster, pilot, job):
        found[NOT_LICENSED] = True
    for kinds in wrong_with_each(in_order(works), pilot_leaves(roster, pilot), roster.rules):
        for kind in kinds:
            found[kind] = True
    return [kind for kind in range(NOT_LICENSED, LAST_KIND + 1) if kind in found]


def latest_end(roster, entries, pilot):
    # Works end behind minute 0, so whoever has none comes first.
    return max([work.end for work in pilot_works(roster, entries, pilot)], default=0)


def in_turn(roster, entries):
    """The pilots' numbers, in turn."""
    pilots = list(range(len(roster.pilots)))
    return sorted(pilots, key=lambda pilot: latest_end(roster, entries, pilot))


def chosen(roster, entries, job):
    """The first in turn of those who may take the job; None if nobody may."""
    for pilot in in_turn(roster, entries):
        if len(why_not(roster, entries, pilot, job)) == 0:
            return pilot
    return None
