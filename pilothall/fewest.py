"""The fewest pilots who do some jobs together.

A share is the jobs that are given to one pilot, as a number: the sum of the BITS at their places.
"""

from pilothall.turns import in_turn, is_licensed, pilot_leaves, pilot_works
from pilothall.works import in_order, job_work, wrong_with_each

BITS = (1, 2, 4, 8, 16, 32)


def has_job(share, place):
    return (share & BITS[place]) > 0


def is_sound(works, leaves, rules):
    """Is nothing wrong with any of a pilot's works?"""
    return all([len(kinds) == 0 for kinds in wrong_with_each(in_order(works), leaves, rules)])


def works_of_share(share, asked):
    """Of the works of all jobs asked about, those of the share's."""
    return [work for place, work in enumerate(asked) if has_job(share, place)]


def shares_of(roster, entries, pilot, jobs):
    """All shares, but the empty one, that can be given to the pilot."""
    works = pilot_works(roster, entries, pilot)
    leaves = pilot_leaves(roster, pilot)
    asked = [job_work(job, roster.rules) for job in jobs]
    shares = [0]
    for place, job in enumerate(jobs):
        if is_licensed(roster, pilot, job):
            # With works gone nothing gets wrong: what can be given with this job can be given without it.
            grown = [share | BITS[place] for share in shares]
            shares = shares + [
                share for share in grown if is_sound(works + works_of_share(share, asked), leaves, roster.rules)]
    return shares[1:]


def least_count(choices, whole):
    """How many pilots it takes to do the whole, each of them with one of the shares they have; None if they can't."""
    counts = {0: 0}
    for shares in choices:
        grown = dict(counts)
        for done in counts:
            for share in shares:
                if (done & share) == 0:
                    both = done | share
                    grown[both] = min(counts[done] + 1, grown.get(both, counts[done] + 1))
        counts = grown
    return counts.get(whole)


def with_job_given(choices, place, taker):
    """The choices that are left if the job at that place is given to the one who stands there among them."""
    left = []
    for index, shares in enumerate(choices):
        left.append([share for share in shares if has_job(share, place) == (index == taker)])
    return left


def fewest_pilots(roster, entries, jobs):
    """A pilot's number for each job, as few pilots as can be, those first in turn; None if it can't be done."""
    turn = in_turn(roster, entries)
    choices = [shares_of(roster, entries, pilot, jobs) for pilot in turn]
    whole = sum(BITS[:len(jobs)])
    least = least_count(choices, whole)
    if least is None:
        return None
    pilots = []
    for place in range(len(jobs)):
        taker = 0
        # Some way has so few pilots, so one of them is found.
        while least_count(with_job_given(choices, place, taker), whole) != least:
            taker += 1
        choices = with_job_given(choices, place, taker)
        pilots.append(turn[taker])
    return pilots
