"""The document's promises on many works and many rows of calls, beside a slow model that follows its words."""

import random
import unittest

from pilothall.rosters import Leave, Rules
from pilothall.works import Work, in_order, wrong_with_each
from tests.helper import (
    CHOOSE, ENTRY, GIVE, HARBOUR, PORT, ROSTER, SHIP, TAKE, TEXT, TURN, WHY, as_text, crew, minute, moment, rules, span,
    talk,
)

MONDAY = minute("2020-03-02 00:00")
DAY = 1440
WEEK = 10080


def night_at(day, told):
    begin = day * DAY + told["night"]
    end = day * DAY + told["till"]
    return (begin, end if told["till"] > told["night"] else end + DAY)


def laps(one, other):
    return one[0] < other[1] and one[1] > other[0]


def nights_at(work, told):
    days = range(work[0] // DAY - 2, work[1] // DAY + 3)
    return {day for day in days if day >= 0 and laps(work, night_at(day, told))}


def duties(works, told):
    """The works of each duty."""
    found = []
    for work in works:
        if found:
            own = found[-1]
            end = max(other[1] for other in own)
            rest = told["night_rest"] if any(nights_at(other, told) for other in own) else told["rest"]
            if work[0] < end + rest:
                own.append(work)
                continue
        found.append([work])
    return found


def worked_between(works, begin, end):
    return sum(len(range(max(work[0], begin), min(work[1], end))) for work in works)


def longest_row(days):
    return max((next(n for n in range(1, 999) if day + n not in days) for day in days), default=0)


def kinds_of_last(works, leaves, told):
    """What's wrong with the last of these works, which stand in order."""
    work = works[-1]
    kinds = []
    if any(laps(work, leave) for leave in leaves):
        kinds.append(2)
    if any(other[1] > work[0] for other in works[:-1]):
        kinds.append(3)
    own = duties(works, told)[-1]
    if max(other[1] for other in own) - own[0][0] > told["duty"]:
        kinds.append(4)
    if worked_between(works, work[1] - WEEK, work[1]) > told["week"]:
        kinds.append(5)
    days = set().union(*[nights_at(other, told) for other in works])
    if any(all(day - back in days for back in range(told["nights"] + 1)) for day in nights_at(work, told)):
        kinds.append(6)
    return kinds


def kinds_of_each(works, leaves, told):
    return [kinds_of_last(works[:count + 1], leaves, told) for count in range(len(works))]


def is_sound(works, leaves, told):
    """Promise 2's right side: the works as a whole."""
    pairs = [(one, other) for index, one in enumerate(works) for other in works[:index]]
    if any(laps(one, other) for one, other in pairs) or any(laps(work, leave) for work in works for leave in leaves):
        return False
    if any(max(work[1] for work in own) - own[0][0] > told["duty"] for own in duties(works, told)):
        return False
    edges = [edge for work in works for edge in work]
    if any(worked_between(works, edge - WEEK, edge) > told["week"] for edge in edges + [edge + WEEK for edge in edges]):
        return False
    return longest_row(set().union(*[nights_at(work, told) for work in works])) <= told["nights"]


def some_rules(chance):
    rest = chance.choice([0, 60, 480, 600])
    night = chance.randrange(0, DAY)
    return dict(
        duty=chance.choice([300, 600, 720, 2880]), rest=rest, night=night, till=(night + chance.randrange(1, DAY)) % DAY,
        night_rest=rest + chance.choice([0, 60, 600]), nights=chance.choice([1, 2, 3, 5]),
        week=chance.choice([600, 1200, 2400, 10080]), before=chance.choice([0, 0, 30]), behind=chance.choice([0, 0, 45]))


def as_rules(told):
    made = Rules()
    made.duty = told["duty"]
    made.rest = told["rest"]
    made.night_begin = told["night"]
    made.night_end = told["till"]
    made.night_rest = told["night_rest"]
    made.nights = told["nights"]
    made.week = told["week"]
    return made


def some_works(chance, count, days):
    works = []
    for index in range(count):
        begin = 840 + chance.randrange(0, days * 96) * 15
        works.append((begin, begin + chance.choice([1, 15, 60, 240, 300, 600])))
    return sorted(works, key=lambda work: work[0])


def program_kinds(works, leaves, told):
    return wrong_with_each([Work(*work) for work in works], [Leave(0, *leave) for leave in leaves], as_rules(told))


class Works(unittest.TestCase):
    def test_beside_the_model(self):
        chance = random.Random(1)
        seen = {}
        for trial in range(3000):
            told = some_rules(chance)
            works = some_works(chance, chance.randrange(1, 12), chance.choice([1, 4, 12, 20]))
            leaves = some_works(chance, chance.choice([0, 0, 1, 2]), 12)
            expected = kinds_of_each(works, leaves, told)
            self.assertEqual(program_kinds(works, leaves, told), expected, (told, works, leaves))
            for kinds in expected:
                seen[tuple(kinds)] = True
        for kind in range(2, 7):
            self.assertIn((kind,), seen)
        self.assertIn((), seen)

    def test_nothing_is_wrong_just_if_the_works_are_sound(self):
        chance = random.Random(2)
        found = {True: 0, False: 0}
        for trial in range(3000):
            told = some_rules(chance)
            works = some_works(chance, chance.randrange(1, 7), chance.choice([4, 12, 20]))
            leaves = some_works(chance, chance.choice([0, 0, 1]), 20)
            sound = is_sound(works, leaves, told)
            self.assertEqual(not any(program_kinds(works, leaves, told)), sound, (told, works, leaves))
            found[sound] += 1
        self.assertGreater(min(found.values()), 300)

    def test_with_some_works_gone_nothing_gets_wrong(self):
        chance = random.Random(3)
        for trial in range(2000):
            told = some_rules(chance)
            works = some_works(chance, chance.randrange(2, 9), 20)
            if any(program_kinds(works, [], told)):
                continue
            fewer = [work for work in works if chance.random() < 0.6]
            self.assertFalse(any(program_kinds(fewer, [], told)), (told, works, fewer))

    def test_alike_ones_stay_in_order(self):
        works = [Work(5, 9), Work(3, 4), Work(5, 6), Work(3, 9)]
        self.assertEqual([(work.begin, work.end) for work in in_order(works)], [(3, 4), (3, 9), (5, 9), (5, 6)])


class Model:
    """The log as the words tell it: for each pilot the leaves, and the entries in order."""

    def __init__(self, told, leaves):
        self.told = told
        self.leaves = leaves
        self.entries = []

    def work_of(self, span_of_job):
        return (span_of_job[0] - self.told["before"], span_of_job[1] + self.told["behind"])

    def works(self, pilot):
        return [self.work_of(job) for owner, job in self.entries if owner == pilot]

    def why(self, pilot, job):
        works = sorted(self.works(pilot) + [self.work_of(job)], key=lambda work: work[0])
        told = kinds_of_each(works, self.leaves[pilot], self.told)
        return sorted(set(kind for kinds in told for kind in kinds))

    def turn(self):
        def key(pilot):
            return (max([work[1] for work in self.works(pilot)], default=-1), pilot)
        return sorted(range(len(self.leaves)), key=key)

    def chosen(self, job):
        free = [pilot for pilot in self.turn() if not self.why(pilot, job)]
        return free[0] if free else None

    def answer(self, number, pilot, job):
        if number == WHY:
            return [0] + self.why(pilot, job)
        if number == GIVE:
            kinds = self.why(pilot, job)
            return [-7, kinds[0]] if kinds else self.entered(pilot, job)
        pilot = self.chosen(job)
        if pilot is None:
            return [-5]
        return [0, pilot] if number == CHOOSE else self.entered(pilot, job) + [pilot]

    def entered(self, pilot, job):
        self.entries.append((pilot, job))
        return [0, len(self.entries)]


class Rows(unittest.TestCase):
    def roster(self, told, leaves):
        names = [f"p{index}" for index in range(len(leaves))]
        more = "".join(f"leave {name} {moment(leave[0])} to {moment(leave[1])} ;\n"
                       for name, own in zip(names, leaves) for leave in own)
        written = dict(told, night=moment(told["night"])[11:], till=moment(told["till"])[11:])
        return rules(**written) + crew(names, more)

    def row(self, chance, told, leaves):
        """A row of calls and what the model answers to them."""
        model = Model(told, leaves)
        calls = []
        expected = []
        for index in range(30):
            number = chance.choice([WHY, CHOOSE, TAKE, TAKE, GIVE, GIVE, TURN])
            pilot = chance.randrange(len(leaves))
            begin = MONDAY + chance.randrange(0, 12 * 96) * 15
            job = (begin, begin + chance.choice([15, 60, 240, 300]))
            text = span(*job)
            if number == TURN:
                calls.append((TURN,))
                expected.append([0] + model.turn())
            else:
                calls.append((number, text) if number in (CHOOSE, TAKE) else (number, pilot, text))
                expected.append(model.answer(number, pilot, job))
        return calls, expected, model

    def test_beside_the_model(self):
        chance = random.Random(4)
        for trial in range(60):
            told = some_rules(chance)
            leaves = []
            for pilot in range(chance.randrange(1, 5)):
                begins = [MONDAY + chance.randrange(0, 12 * DAY) for count in range(chance.choice([0, 0, 1, 2]))]
                leaves.append([(begin, begin + chance.randrange(0, 2 * DAY)) for begin in begins])
            calls, expected, model = self.row(chance, told, leaves)
            entries = [(ENTRY, index + 1) for index in range(len(model.entries))]
            given = talk((PORT, HARBOUR), (ROSTER, self.roster(told, leaves)), *calls, *entries)
            self.assertEqual(given[:2], [[0], [0]])
            self.assertEqual(given[2:32], expected)
            self.check_log(given[32:], told, leaves)

    def check_log(self, entries, told, leaves):
        """Whatever was called, nothing's wrong with the log."""
        for pilot, own in enumerate(leaves):
            works = sorted((entry[4], entry[5]) for entry in entries if entry[1] == pilot)
            self.assertTrue(is_sound(works, own, told))


class Texts(unittest.TestCase):
    def test_rosters_printed_are_read_as_they_were(self):
        chance = random.Random(5)
        for trial in range(40):
            text = rules(rest=chance.randrange(0, 700), week=chance.randrange(60, 10081))
            sentences = []
            for index in range(chance.randrange(1, 25)):
                sentences.append(f"pilot p{index} ;")
                first = chance.randrange(0, 109573)
                days = sorted([first, chance.randrange(0, 109573)])
                sentences.append(f"licence p{index} grade g {moment(days[0] * DAY)[:10]} to {moment(days[1] * DAY)[:10]} "
                                 "legs outer , inner ;")
                begin = chance.randrange(0, 109572 * DAY)
                sentences.append(f"leave p{index} {moment(begin)} to {moment(begin + chance.randrange(0, DAY))} ;")
            whole = text + "grade g long 77.7 draught 5.05 gross 77 ;\n" + "\n".join(sentences)
            once = self.printed(whole)
            self.assertEqual(self.printed(once), once)
            self.assertEqual(sorted(once.split("\n")), sorted((whole.replace("77.7", "77.70") + "\n").split("\n")))

    def printed(self, text):
        return as_text(talk((PORT, HARBOUR), (ROSTER, text), (TEXT,))[2][1:])

    def test_a_pilot_without_licence_never_goes(self):
        roster = (rules() + "pilot A ; pilot B ; grade g long 149.99 draught 30 gross 400000 ;"
                  "licence A grade g 1900-01-01 to 2199-12-31 legs inner ;")
        text = span(MONDAY, MONDAY + 10, ship=SHIP)
        self.assertEqual(talk((PORT, HARBOUR), (ROSTER, roster), (CHOOSE, text), (TAKE, text), (GIVE, 0, text),
                              (GIVE, 1, text))[2:], [[-5], [-5], [-7, 1], [-7, 1]])


if __name__ == "__main__":
    unittest.main()
