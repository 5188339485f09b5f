"""What the calls keep and answer: the port, the roster, the log."""

from pilothall.fewest import fewest_pilots
from pilothall.jobs import read_job_text, read_jobs_text
from pilothall.logs import MOST_ENTRIES, log_text, read_log, wrong_things
from pilothall.ports import read_port
from pilothall.printed import text_bytes
from pilothall.rosters import read_roster, roster_text
from pilothall.turns import Entry, chosen, in_turn, pilot_works, why_not
from pilothall.works import (
    in_order, job_work, last_duty, minutes_between, nights_in_row, rest_behind, worked_nights,
)

DONE = 0
NO_SUCH = -4
CANT_BE = -5
LOG_FULL = -6
MAY_NOT = -7


class Hall:
    """The port, the roster (None till there is one), the log's entries, the number that the next entry gets."""

    def __init__(self):
        self.port = None
        self.roster = None
        self.entries = []
        self.coming = 1


def is_pilot(hall, pilot):
    return pilot < len(hall.roster.pilots)


def is_log_full(hall):
    return len(hall.entries) >= MOST_ENTRIES


def entry_of(hall, number):
    """The entry of that number; None if there is no such one."""
    for entry in hall.entries:
        if entry.number == number:
            return entry
    return None


def add_entry(hall, pilot, job):
    """Enters the job in the log; gives back the entry's number."""
    number = hall.coming
    hall.entries.append(Entry(number, pilot, job))
    hall.coming = number + 1
    return number


def begin_log(hall, entries):
    """The log is new: these entries, which are numbered from 1."""
    hall.entries = entries
    hall.coming = len(entries) + 1


def own_works(hall, pilot):
    """The works of the pilot's entries, in the order of their beginnings."""
    return in_order(pilot_works(hall.roster, hall.entries, pilot))


def port_call(hall, told):
    hall.port = read_port(told)
    hall.roster = None
    begin_log(hall, [])
    return [DONE]


def roster_call(hall, told):
    hall.roster = read_roster(told, hall.port.legs)
    begin_log(hall, [])
    return [DONE]


def text_call(hall):
    return [DONE] + text_bytes(roster_text(hall.roster))


def turn_call(hall):
    return [DONE] + in_turn(hall.roster, hall.entries)


def name_call(hall, pilot):
    if not is_pilot(hall, pilot):
        return [NO_SUCH]
    return [DONE] + text_bytes(hall.roster.pilots[pilot])


def why_call(hall, pilot, told):
    job = read_job_text(told, hall.port.legs)
    if not is_pilot(hall, pilot):
        return [NO_SUCH]
    return [DONE] + why_not(hall.roster, hall.entries, pilot, job)


def choose_call(hall, told):
    job = read_job_text(told, hall.port.legs)
    pilot = chosen(hall.roster, hall.entries, job)
    if pilot is None:
        return [CANT_BE]
    return [DONE, pilot]


def take_call(hall, told):
    job = read_job_text(told, hall.port.legs)
    if is_log_full(hall):
        return [LOG_FULL]
    pilot = chosen(hall.roster, hall.entries, job)
    if pilot is None:
        return [CANT_BE]
    return [DONE, add_entry(hall, pilot, job), pilot]


def give_call(hall, pilot, told):
    job = read_job_text(told, hall.port.legs)
    if not is_pilot(hall, pilot):
        return [NO_SUCH]
    if is_log_full(hall):
        return [LOG_FULL]
    kinds = why_not(hall.roster, hall.entries, pilot, job)
    if len(kinds) > 0:
        return [MAY_NOT, kinds[0]]
    return [DONE, add_entry(hall, pilot, job)]


def entry_call(hall, number):
    entry = entry_of(hall, number)
    if entry is None:
        return [NO_SUCH]
    job = entry.job
    work = job_work(job, hall.roster.rules)
    return [DONE, entry.pilot, job.begin, job.end, work.begin, work.end, len(job.legs)]


def cancel_call(hall, number):
    if entry_of(hall, number) is None:
        return [NO_SUCH]
    hall.entries = [entry for entry in hall.entries if entry.number != number]
    return [DONE]


def swap_call(hall, number, other_number):
    entry = entry_of(hall, number)
    other = entry_of(hall, other_number)
    if entry is None or other is None:
        return [NO_SUCH]
    if entry.pilot == other.pilot:
        return [CANT_BE]
    left = [kept for kept in hall.entries if kept.number not in (number, other_number)]
    kinds = why_not(hall.roster, left, other.pilot, entry.job)
    if len(kinds) > 0:
        return [MAY_NOT, number, kinds[0]]
    kinds = why_not(hall.roster, left, entry.pilot, other.job)
    if len(kinds) > 0:
        return [MAY_NOT, other_number, kinds[0]]
    pilot = entry.pilot
    entry.pilot = other.pilot
    other.pilot = pilot
    return [DONE]


def hand_call(hall, number, pilot):
    entry = entry_of(hall, number)
    if entry is None or not is_pilot(hall, pilot):
        return [NO_SUCH]
    if entry.pilot == pilot:
        return [CANT_BE]
    kinds = why_not(hall.roster, hall.entries, pilot, entry.job)
    if len(kinds) > 0:
        return [MAY_NOT, kinds[0]]
    entry.pilot = pilot
    return [DONE]


def work_call(hall, pilot, begin, end):
    if not is_pilot(hall, pilot):
        return [NO_SUCH]
    return [DONE, minutes_between(own_works(hall, pilot), begin, end)]


def duty_call(hall, pilot, minute):
    if not is_pilot(hall, pilot):
        return [NO_SUCH]
    rules = hall.roster.rules
    duty = last_duty([work for work in own_works(hall, pilot) if work.begin <= minute], rules)
    if duty is None:
        return [CANT_BE]
    rested = duty.end + rest_behind(duty, rules)
    return [DONE, duty.begin, duty.end, 1 if duty.has_night else 0, duty.work_count, rested]


def nights_call(hall, pilot, day):
    if not is_pilot(hall, pilot):
        return [NO_SUCH]
    worked = worked_nights(own_works(hall, pilot), hall.roster.rules)
    return [DONE, nights_in_row(worked, day)]


def judge_call(hall, told):
    things = wrong_things(hall.roster, read_log(told, hall.roster, hall.port.legs))
    given = [DONE, len(things)]
    for thing in things:
        given.extend(thing)
    return given


def least_call(hall, told):
    jobs = read_jobs_text(told, hall.port.legs)
    pilots = fewest_pilots(hall.roster, hall.entries, jobs)
    if pilots is None:
        return [CANT_BE]
    return [DONE, len(set(pilots))] + pilots


def log_call(hall):
    return [DONE] + text_bytes(log_text(hall.roster, hall.entries))


def load_call(hall, told):
    entries = read_log(told, hall.roster, hall.port.legs)
    things = wrong_things(hall.roster, entries)
    if len(things) > 0:
        return [MAY_NOT] + list(things[0])
    begin_log(hall, entries)
    return [DONE]
