"""A log's text, read, printed and judged."""

from pilothall.jobs import job_text, read_job
from pilothall.reader import Reader
from pilothall.turns import NOT_LICENSED, Entry, is_licensed, pilot_leaves
from pilothall.works import job_work, wrong_with_each

MOST_ENTRIES = 48


def read_log(told, roster, legs):
    """The entries that a text tells, numbered from 1."""
    reader = Reader(told)
    entries = []
    while not reader.is_at_end():
        reader.expect_word("by")
        name = reader.read_known_name_if_room(roster.pilots, len(entries), MOST_ENTRIES)
        job = read_job(reader, legs)
        entries.append(Entry(len(entries) + 1, roster.pilots.index(name), job))
    return entries


def log_text(roster, entries):
    return "".join(["by " + roster.pilots[entry.pilot] + " " + job_text(entry.job) for entry in entries])


def places_of(entries, pilot):
    return [place for place, entry in enumerate(entries) if entry.pilot == pilot]


def wrong_with_entries(roster, entries):
    """For each entry, in order: the kinds, rising, of what's wrong with it, nothing but these entries looked at."""
    told = [[] if is_licensed(roster, entry.pilot, entry.job) else [NOT_LICENSED] for entry in entries]
    works = [job_work(entry.job, roster.rules) for entry in entries]
    for pilot in range(len(roster.pilots)):
        ordered = sorted(places_of(entries, pilot), key=lambda index: works[index].begin)
        own = [works[place] for place in ordered]
        wrong = wrong_with_each(own, pilot_leaves(roster, pilot), roster.rules)
        for place, kinds in zip(ordered, wrong):
            told[place].extend(kinds)
    return told


def wrong_things(roster, entries):
    """What's wrong with the entries, each an entry's place, from 0, and a kind: by entries, of one by kinds."""
    things = []
    for place, kinds in enumerate(wrong_with_entries(roster, entries)):
        things.extend([(place, kind) for kind in kinds])
    return things
