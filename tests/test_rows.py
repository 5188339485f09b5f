"""Long rows of calls of all 20 kinds beside a slow model that follows the document's words."""

import collections
import itertools
import random
import unittest

from pilothall.pilots import answers
from tests.helper import (
    CANCEL, CHOOSE, DAY, DUTY, ENTRY, GIVE, HAND, HARBOUR, JUDGE, LEAST, LOAD, LOG, NAME, NIGHTS, PORT, ROSTER, SWAP, TAKE,
    TEXT, TURN, WHY, WORK, as_bytes, as_text, duties, flat, is_sound, kinds_of_each, minute, moment, nights_at, rules,
    some_rules, talk, worked_between,
)

MONDAY = minute("2020-03-02 00:00")
LIMITS = {PORT: 4096, ROSTER: 8192, WHY: 1024, CHOOSE: 1024, TAKE: 1024, GIVE: 1024, JUDGE: 16384, LEAST: 4096, LOAD: 16384}
LEGS = ("inner", "outer", "basin")
GRADES = {"small": 100, "great": 300}

Job = collections.namedtuple("Job", "begin end legs long")
Licence = collections.namedtuple("Licence", "grade first last legs")
Roster = collections.namedtuple("Roster", "told names licences leaves")
Told = collections.namedtuple("Told", "text value fault")


def job_text(job):
    return (f"job {moment(job.begin)} to {moment(job.end)} legs {' , '.join(job.legs)} ;\n"
            f"ship Gerda kind tanker long {job.long}.00 beam 22.00 draught 8.00 high 30.00 block 0.80 gross 12000 "
            "board 4.00 ;\n")


def log_text(names, entries):
    return "".join(f"by {names[pilot]} {job_text(job)}" for pilot, job in entries)


def roster_text(roster):
    written = dict(roster.told, night=moment(roster.told["night"])[11:], till=moment(roster.told["till"])[11:])
    lines = [f"grade {grade} long {long}.00 draught 30.00 gross 400000 ;\n" for grade, long in GRADES.items()]
    lines += [f"pilot {name} ;\n" for name in roster.names]
    for name, own in zip(roster.names, roster.licences):
        for licence in own:
            days = f"{moment(licence.first * DAY)[:10]} to {moment(licence.last * DAY)[:10]}"
            lines.append(f"licence {name} grade {licence.grade} {days} legs {' , '.join(licence.legs)} ;\n")
    for name, own in zip(roster.names, roster.leaves):
        lines += [f"leave {name} {moment(begin)} to {moment(end)} ;\n" for begin, end in own]
    return rules(**written) + "".join(lines)


class Model:
    """What is kept, and what is answered, as the words tell it. An entry is its number, its pilot, its job."""

    def __init__(self):
        self.port = False
        self.roster = None
        self.entries = []
        self.coming = 1

    def answer(self, call):
        number, given = call[0], call[1:]
        told = given[-1] if number in LIMITS else None
        if (told and len(told.text) > LIMITS[number]) or (number == WORK and given[2] < given[1]):
            return [-1]
        if number != PORT and not (self.port if number == ROSTER else self.roster):
            return [-3]
        if told and told.fault:
            return [-2, *told.fault]
        if number in (NAME, WHY, GIVE, WORK, DUTY, NIGHTS) and given[0] >= len(self.roster.names):
            return [-4]
        if number == HAND and given[1] >= len(self.roster.names):
            return [-4]
        asked = {ENTRY: given[:1], CANCEL: given[:1], HAND: given[:1], SWAP: given[:2]}.get(number, ())
        if any(self.found(entry) is None for entry in asked):
            return [-4]
        if number in (TAKE, GIVE) and len(self.entries) == 48:
            return [-6]
        values = [part.value if isinstance(part, Told) else part for part in given]
        return getattr(self, "call_" + str(number))(*values)

    def found(self, number):
        return next((entry for entry in self.entries if entry[0] == number), None)

    def work_of(self, job):
        return (job.begin - self.roster.told["before"], job.end + self.roster.told["behind"])

    def works(self, pilot, entries=None):
        own = [self.work_of(job) for number, owner, job in (self.entries if entries is None else entries) if owner == pilot]
        return sorted(own, key=lambda work: work[0])

    def licensed(self, pilot, job):
        days = (job.begin // DAY, job.end // DAY)
        good = [licence for licence in self.roster.licences[pilot]
                if licence.first <= days[0] and days[1] <= licence.last and job.long <= GRADES[licence.grade]]
        return all(any(leg in licence.legs for licence in good) for leg in job.legs)

    def why(self, pilot, job, entries=None):
        works = sorted(self.works(pilot, entries) + [self.work_of(job)], key=lambda work: work[0])
        kinds = set().union(*kinds_of_each(works, self.roster.leaves[pilot], self.roster.told))
        return sorted(kinds | (set() if self.licensed(pilot, job) else {1}))

    def turn(self):
        return sorted(range(len(self.roster.names)),
                      key=lambda pilot: (max([work[1] for work in self.works(pilot)], default=-1), pilot))

    def wrong(self, entries):
        """Each entry's place and kind, of entries that are a pilot and a job."""
        things = [(place, 1) for place, (pilot, job) in enumerate(entries) if not self.licensed(pilot, job)]
        for pilot in range(len(self.roster.names)):
            own = [(self.work_of(job), place) for place, (owner, job) in enumerate(entries) if owner == pilot]
            own.sort(key=lambda pair: pair[0][0])
            told = kinds_of_each([work for work, place in own], self.roster.leaves[pilot], self.roster.told)
            things += [(place, kind) for (work, place), kinds in zip(own, told) for kind in kinds]
        return sorted(things)

    def enter(self, pilot, job):
        self.entries.append((self.coming, pilot, job))
        self.coming += 1
        return self.coming - 1

    def change(self, number, pilot):
        self.entries = [(own, pilot if own == number else owner, job) for own, owner, job in self.entries]

    def renew(self, entries):
        self.entries = [(index + 1, pilot, job) for index, (pilot, job) in enumerate(entries)]
        self.coming = len(entries) + 1
        return [0]

    def call_1(self, value):
        self.port = True
        self.roster = None
        return self.renew([])

    def call_2(self, roster):
        self.roster = roster
        return self.renew([])

    def call_3(self):
        return [0] + as_bytes(roster_text(self.roster))

    def call_4(self):
        return [0] + self.turn()

    def call_5(self, pilot):
        return [0] + as_bytes(self.roster.names[pilot])

    def call_6(self, pilot, job):
        return [0] + self.why(pilot, job)

    def call_7(self, job):
        free = [pilot for pilot in self.turn() if not self.why(pilot, job)]
        return [0, free[0]] if free else [-5]

    def call_8(self, job):
        chosen = self.call_7(job)
        return chosen if chosen == [-5] else [0, self.enter(chosen[1], job), chosen[1]]

    def call_9(self, pilot, job):
        kinds = self.why(pilot, job)
        return [-7, kinds[0]] if kinds else [0, self.enter(pilot, job)]

    def call_10(self, number):
        number, pilot, job = self.found(number)
        return [0, pilot, job.begin, job.end, *self.work_of(job), len(job.legs)]

    def call_11(self, number):
        self.entries = [entry for entry in self.entries if entry[0] != number]
        return [0]

    def call_12(self, first, second):
        one, other = self.found(first), self.found(second)
        if one[1] == other[1]:
            return [-5]
        left = [entry for entry in self.entries if entry not in (one, other)]
        for number, pilot, job in ((first, other[1], one[2]), (second, one[1], other[2])):
            kinds = self.why(pilot, job, left)
            if kinds:
                return [-7, number, kinds[0]]
        self.change(first, other[1])
        self.change(second, one[1])
        return [0]

    def call_13(self, number, pilot):
        entry = self.found(number)
        if entry[1] == pilot:
            return [-5]
        kinds = self.why(pilot, entry[2])
        if kinds:
            return [-7, kinds[0]]
        self.change(number, pilot)
        return [0]

    def call_14(self, pilot, begin, end):
        return [0, worked_between(self.works(pilot), begin, end)]

    def call_15(self, pilot, at):
        works = [work for work in self.works(pilot) if work[0] <= at]
        if not works:
            return [-5]
        told = self.roster.told
        own = duties(works, told)[-1]
        end = max(work[1] for work in own)
        night = any(nights_at(work, told) for work in own)
        return [0, own[0][0], end, int(night), len(own), end + told["night_rest" if night else "rest"]]

    def call_16(self, pilot, day):
        days = set().union(*[nights_at(work, self.roster.told) for work in self.works(pilot)])
        return [0, next(count for count in itertools.count() if day - count not in days)]

    def call_17(self, entries):
        things = self.wrong(entries)
        return [0, len(things)] + [number for thing in things for number in thing]

    def call_18(self, jobs):
        turn = self.turn()
        ways = []
        for way in itertools.product(range(len(turn)), repeat=len(jobs)):
            given = {place: [job for taker, job in zip(way, jobs) if taker == place] for place in set(way)}
            if all(self.done(turn[place], tuple(own)) for place, own in given.items()):
                ways.append((len(given), way))
        return [0, min(ways)[0]] + [turn[place] for place in min(ways)[1]] if ways else [-5]

    def done(self, pilot, jobs):
        works = sorted(self.works(pilot) + [self.work_of(job) for job in jobs], key=lambda work: work[0])
        return (all(self.licensed(pilot, job) for job in jobs)
                and is_sound(works, self.roster.leaves[pilot], self.roster.told))

    def call_19(self):
        return [0] + as_bytes(log_text(self.roster.names, [entry[1:] for entry in self.entries]))

    def call_20(self, entries):
        things = self.wrong(entries)
        return [-7, *things[0]] if things else self.renew(entries)


class Maker:
    """Makes rows of calls, at which the model stands as it will when each of them comes."""

    def __init__(self, seed):
        self.chance = random.Random(seed)
        self.model = Model()

    def some(self, rows):
        return self.chance.choice(rows)

    def legs(self):
        return tuple(self.chance.sample(LEGS, self.chance.randrange(1, 4)))

    def job(self):
        begin = MONDAY + self.chance.randrange(0, 10 * 96) * 15
        return Job(begin, begin + self.some([15, 60, 240, 300]), self.legs(), self.some([90, 100, 101, 300]))

    def told(self, text, value, number):
        """The text, now and then a faulty or a too long one."""
        if self.chance.random() < 0.08:
            return Told(*self.some([(text + "?", value, (1, len(text))), (text + ";", value, (2, len(text))),
                                    (text + " " * LIMITS[number], value, None)]))
        return Told(text, value, None)

    def roster(self):
        names = [f"p{index}" for index in range(self.chance.randrange(1, 5))]
        licences = []
        leaves = []
        for name in names:
            every = Licence("great", 0, 109572, LEGS)
            first = MONDAY // DAY + self.chance.randrange(-9, 9)
            part = Licence(self.some(["small", "great"]), first, first + self.chance.randrange(0, 30), self.legs())
            licences.append(self.some([[every], [every], [every, part], [part, part], [part], []]))
            begins = [MONDAY + self.chance.randrange(0, 10 * DAY) for count in range(self.some([0, 0, 1, 2]))]
            leaves.append([(begin, begin + self.chance.randrange(0, 2 * DAY)) for begin in begins])
        return Roster(some_rules(self.chance), names, licences, leaves)

    def pilot(self):
        names = self.model.roster.names if self.model.roster else ["p0"]
        return self.some([*range(len(names))] * 6 + [len(names), 999999999])

    def entry(self):
        return self.some([entry[0] for entry in self.model.entries] * 6 + [self.model.coming, 1, 0, 999999999])

    def entries(self):
        """A pilot and a job each; mostly nothing is wrong with them."""
        names = self.model.roster.names
        sound = self.chance.random() < 0.7
        entries = []
        for index in range(self.chance.randrange(0, 9)):
            more = entries + [(self.chance.randrange(len(names)), self.job())]
            if not sound or not self.model.wrong(more):
                entries = more
        return entries

    def text_for(self, number):
        if number == PORT:
            return self.told(HARBOUR, None, number)
        if number == ROSTER:
            roster = self.roster()
            return self.told(roster_text(roster), roster, number)
        if number in (JUDGE, LOAD):
            if not self.model.roster:
                return self.told("", [], number)
            entries = self.entries()
            return self.told(log_text(self.model.roster.names, entries), entries, number)
        if number == LEAST:
            jobs = [self.job() for index in range(self.chance.randrange(1, 7))]
            return self.told("".join(job_text(job) for job in jobs), jobs, number)
        job = self.job()
        return self.told(job_text(job), job, number)

    def moment(self):
        return self.some([MONDAY + self.chance.randrange(-DAY, 12 * DAY)] * 9 + [0, 999999999])

    def call(self, number):
        if number in (NAME, WHY, GIVE):
            numbers = [self.pilot()]
        elif number in (ENTRY, CANCEL):
            numbers = [self.entry()]
        elif number == SWAP:
            numbers = [self.entry(), self.entry()]
        elif number == HAND:
            numbers = [self.entry(), self.pilot()]
        elif number == WORK:
            moments = [self.moment(), self.moment()]
            numbers = [self.pilot()] + (moments if self.chance.random() < 0.2 else sorted(moments))
        elif number == DUTY:
            numbers = [self.pilot(), self.moment()]
        elif number == NIGHTS:
            numbers = [self.pilot(), self.moment() // DAY]
        else:
            numbers = []
        return (number, *numbers, *([self.text_for(number)] if number in LIMITS else []))

    def kinds(self, count):
        """The numbers of the calls, least among them twice at most."""
        often = [TAKE] * 9 + [GIVE] * 9 + [SWAP] * 6 + [HAND] * 6 + [CANCEL] * 2
        once = [TEXT, TURN, NAME, WHY, WHY, CHOOSE, CHOOSE, ENTRY, WORK, DUTY, DUTY, NIGHTS, NIGHTS, JUDGE, JUDGE, LOG, LOAD]
        row = [self.some(often + once) for index in range(count - 4)]
        for number in (LEAST, LEAST):
            row[self.chance.randrange(len(row))] = number
        begin = self.some([[PORT, ROSTER]] * 4 + [[self.some(once), PORT, self.some(often + once), ROSTER]])
        middle = self.chance.randrange(len(row))
        return begin + row[:middle] + self.some([[], [], [ROSTER], [PORT, ROSTER]]) + row[middle:]

    def row(self, count, most=25000):
        """Calls, and what the model answers, with at most so many numbers."""
        calls = []
        expected = []
        size = 0
        for number in self.kinds(count):
            call = self.call(number)
            plain = tuple(part.text if isinstance(part, Told) else part for part in call)
            if size + len(flat([plain])) > most:
                continue
            size += len(flat([plain]))
            calls.append(plain)
            expected.append(self.model.answer(call))
        return calls, expected


class Rows(unittest.TestCase):
    def check_log(self, model, entries):
        """The one sentence: nobody works without rest or without a licence."""
        for pilot, leaves in enumerate(model.roster.leaves):
            works = sorted((entry[4], entry[5]) for entry in entries if entry[1] == pilot)
            self.assertTrue(is_sound(works, leaves, model.roster.told))
        for entry, (number, pilot, job) in zip(entries, model.entries):
            self.assertEqual(entry[1:4], [pilot, job.begin, job.end])
            self.assertTrue(model.licensed(pilot, job))

    def check_told_again(self, calls, model, text):
        """A log told has nothing wrong, is loaded again, and told again is the same."""
        more = [(JUDGE, text), (LOAD, text), (LOG,), (TAKE, job_text(Job(MONDAY, MONDAY + 15, LEGS, 90)))]
        self.assertLessEqual(len(flat(calls + more)), 33000)
        given = talk(*calls, *more)
        self.assertEqual(given[-4:-1], [[0, 0], [0], [0] + as_bytes(text)])
        if given[-1][0] == 0:
            self.assertEqual(given[-1][1], len(model.entries) + 1)

    def test_beside_the_model(self):
        seen = collections.Counter()
        for seed in range(150):
            maker = Maker(seed)
            calls, expected = maker.row(76)
            given = talk(*calls)
            for call, one, other in zip(calls, given, expected):
                self.assertEqual(one, other, (seed, call))
                seen[call[0], one[0]] += 1
            model = maker.model
            if model.roster:
                alive = [(ENTRY, entry[0]) for entry in model.entries]
                told = talk(*calls, *alive, (LOG,))
                self.check_log(model, told[len(calls):-1])
                self.check_told_again(calls, model, as_text(told[-1][1:]))
        self.check_seen(seen)

    def check_seen(self, seen):
        """Each call was answered, and refused in each way that it can be."""
        rows = {PORT: (), ROSTER: (-3,), TEXT: (-3,), TURN: (-3,), NAME: (-3, -4), WHY: (-3, -4), CHOOSE: (-3, -5),
                TAKE: (-3, -5), GIVE: (-3, -4, -7), ENTRY: (-3, -4), CANCEL: (-3, -4), SWAP: (-3, -4, -5, -7),
                HAND: (-3, -4, -5, -7), WORK: (-1, -3, -4), DUTY: (-3, -4, -5), NIGHTS: (-3, -4), JUDGE: (-3,),
                LEAST: (-3, -5), LOG: (-3,), LOAD: (-3, -7)}
        for number, refusals in rows.items():
            more = (-1, -2) if number in LIMITS else ()
            for first in (0, *refusals, *more):
                self.assertGreater(seen[number, first], 0, (number, first))

    def test_who_is_chosen_is_first_in_turn_of_those_who_may(self):
        for seed in range(1000, 1040):
            maker = Maker(seed)
            calls = maker.row(40)[0]
            if maker.model.roster:
                text = job_text(maker.job())
                count = len(maker.model.roster.names)
                given = talk(*calls, (TURN,), (CHOOSE, text), *[(WHY, pilot, text) for pilot in range(count)])[len(calls):]
                free = [pilot for pilot in given[0][1:] if given[2 + pilot] == [0]]
                self.assertEqual(given[1], [0, free[0]] if free else [-5])

    def test_what_is_handed_in_stays_and_nothing_is_kept(self):
        for seed in range(2000, 2010):
            told = flat(Maker(seed).row(78, 33000)[0])
            copy = list(told)
            first = answers(told)
            self.assertEqual(told, copy)
            self.assertEqual(answers(told), first)
            self.assertEqual({type(number) for number in first}, {int})


if __name__ == "__main__":
    unittest.main()
