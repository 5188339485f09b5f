"""What the calls keep and answer: the port, the roster, the log."""

from pilothall.jobs import read_job_text
from pilothall.ports import read_port
from pilothall.printed import text_bytes
from pilothall.rosters import read_roster, roster_text
from pilothall.turns import Entry, chosen, in_turn, why_not
from pilothall.works import job_work

DONE = 0
NOBODY_MAY = -5
NO_SUCH = -4
LOG_FULL = -6
MAY_NOT = -7
MOST_ENTRIES = 48


class Hall:
    """The port, the roster (None till there is one), the log's entries, the number that the next entry gets."""

    def __init__(self):
        self.port = None
        self.roster = None
        self.entries = []
        self.coming = 1


def is_pilot(hall, pilot):
    return pilot < len(hall.roster.pilots)


def is_log_full(hall):
    return len(hall.entries) >= MOST_ENTRIES


def entry_of(hall, number):
    """The entry of that number; None if there is no such one."""
    for entry in hall.entries:
        if entry.number == number:
            return entry
    return None


def add_entry(hall, pilot, job):
    """Enters the job in the log; gives back the entry's number."""
    number = hall.coming
    hall.entries.append(Entry(number, pilot, job))
    hall.coming = number + 1
    return number


def clear_log(hall):
    hall.entries = []
    hall.coming = 1


def port_call(hall, told):
    hall.port = read_port(told)
    hall.roster = None
    clear_log(hall)
    return [DONE]


def roster_call(hall, told):
    hall.roster = read_roster(told, hall.port.legs)
    clear_log(hall)
    return [DONE]


def text_call(hall):
    return [DONE] + text_bytes(roster_text(hall.roster))


def turn_call(hall):
    return [DONE] + in_turn(hall.roster, hall.entries)


def name_call(hall, pilot):
    if not is_pilot(hall, pilot):
        return [NO_SUCH]
    return [DONE] + text_bytes(hall.roster.pilots[pilot])


def why_call(hall, pilot, told):
    job = read_job_text(told, hall.port.legs)
    if not is_pilot(hall, pilot):
        return [NO_SUCH]
    return [DONE] + why_not(hall.roster, hall.entries, pilot, job)


def choose_call(hall, told):
    job = read_job_text(told, hall.port.legs)
    pilot = chosen(hall.roster, hall.entries, job)
    if pilot is None:
        return [NOBODY_MAY]
    return [DONE, pilot]


def take_call(hall, told):
    job = read_job_text(told, hall.port.legs)
    if is_log_full(hall):
        return [LOG_FULL]
    pilot = chosen(hall.roster, hall.entries, job)
    if pilot is None:
        return [NOBODY_MAY]
    return [DONE, add_entry(hall, pilot, job), pilot]


def give_call(hall, pilot, told):
    job = read_job_text(told, hall.port.legs)
    if not is_pilot(hall, pilot):
        return [NO_SUCH]
    if is_log_full(hall):
        return [LOG_FULL]
    kinds = why_not(hall.roster, hall.entries, pilot, job)
    if len(kinds) > 0:
        return [MAY_NOT, kinds[0]]
    return [DONE, add_entry(hall, pilot, job)]


def entry_call(hall, number):
    entry = entry_of(hall, number)
    if entry is None:
        return [NO_SUCH]
    job = entry.job
    work = job_work(job, hall.roster.rules)
    return [DONE, entry.pilot, job.begin, job.end, work.begin, work.end, len(job.legs)]
