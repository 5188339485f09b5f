"""A job's text, jobs' texts."""

from pilothall.days import moment_text
from pilothall.printed import row_text, sentence
from pilothall.reader import TOO_MANY, Reader
from pilothall.ships import read_ship, ship_text
from pilothall.tokens import SEMICOLON

FIRST_JOB_DAY = 1
MOST_JOB_MINUTES = 2880
MOST_JOBS = 6


class Job:
    """A job: its two moments as minutes, the names of its legs, its ship."""

    def __init__(self, begin, end, legs, ship):
        self.begin = begin
        self.end = end
        self.legs = legs
        self.ship = ship


def read_job(reader, legs):
    """One job, on legs of these; more may stand behind it."""
    reader.expect_word("job")
    begin = reader.read_moment(FIRST_JOB_DAY)
    reader.expect_word("to")
    end = reader.read_later_moment(begin + 1, begin + MOST_JOB_MINUTES)
    reader.expect_word("legs")
    row = reader.read_leg_row(legs)
    reader.expect_sign(SEMICOLON)
    return Job(begin, end, row, read_ship(reader))


def read_job_text(told, legs):
    """The one job that a text tells."""
    reader = Reader(told)
    job = read_job(reader, legs)
    reader.expect_end()
    return job


def read_jobs_text(told, legs):
    """The jobs, one at least, that a text tells one behind another."""
    reader = Reader(told)
    jobs = []
    while len(jobs) == 0 or not reader.is_at_end():
        if len(jobs) >= MOST_JOBS and reader.is_at_word("job"):
            reader.refuse(TOO_MANY)
        jobs.append(read_job(reader, legs))
    return jobs


def job_text(job):
    head = sentence(["job", moment_text(job.begin), "to", moment_text(job.end), "legs", row_text(job.legs)])
    return head + ship_text(job.ship)
