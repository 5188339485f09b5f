"""The document's promises on many works and texts, beside a slow model that follows its words."""

import random
import unittest

from pilothall.rosters import Leave, Rules
from pilothall.works import Work, in_order, wrong_with_each
from tests.helper import (
    CHOOSE, DAY, GIVE, HARBOUR, PORT, ROSTER, SHIP, TAKE, TEXT, as_text, is_sound, kinds_of_each, minute, moment, rules,
    some_rules, span, talk,
)

MONDAY = minute("2020-03-02 00:00")


def as_rules(told):
    made = Rules()
    made.duty = told["duty"]
    made.rest = told["rest"]
    made.night_begin = told["night"]
    made.night_end = told["till"]
    made.night_rest = told["night_rest"]
    made.nights = told["nights"]
    made.week = told["week"]
    return made


def some_works(chance, count, days):
    works = []
    for index in range(count):
        begin = 840 + chance.randrange(0, days * 96) * 15
        works.append((begin, begin + chance.choice([1, 15, 60, 240, 300, 600])))
    return sorted(works, key=lambda work: work[0])


def program_kinds(works, leaves, told):
    return wrong_with_each([Work(*work) for work in works], [Leave(0, *leave) for leave in leaves], as_rules(told))


class Works(unittest.TestCase):
    def test_beside_the_model(self):
        chance = random.Random(1)
        seen = {}
        for trial in range(3000):
            told = some_rules(chance)
            works = some_works(chance, chance.randrange(1, 12), chance.choice([1, 4, 12, 20]))
            leaves = some_works(chance, chance.choice([0, 0, 1, 2]), 12)
            expected = kinds_of_each(works, leaves, told)
            self.assertEqual(program_kinds(works, leaves, told), expected, (told, works, leaves))
            for kinds in expected:
                seen[tuple(kinds)] = True
        for kind in range(2, 7):
            self.assertIn((kind,), seen)
        self.assertIn((), seen)

    def test_nothing_is_wrong_just_if_the_works_are_sound(self):
        chance = random.Random(2)
        found = {True: 0, False: 0}
        for trial in range(3000):
            told = some_rules(chance)
            works = some_works(chance, chance.randrange(1, 7), chance.choice([4, 12, 20]))
            leaves = some_works(chance, chance.choice([0, 0, 1]), 20)
            sound = is_sound(works, leaves, told)
            self.assertEqual(not any(program_kinds(works, leaves, told)), sound, (told, works, leaves))
            found[sound] += 1
        self.assertGreater(min(found.values()), 300)

    def test_with_some_works_gone_nothing_gets_wrong(self):
        chance = random.Random(3)
        for trial in range(2000):
            told = some_rules(chance)
            works = some_works(chance, chance.randrange(2, 9), 20)
            if any(program_kinds(works, [], told)):
                continue
            fewer = [work for work in works if chance.random() < 0.6]
            self.assertFalse(any(program_kinds(fewer, [], told)), (told, works, fewer))

    def test_alike_ones_stay_in_order(self):
        works = [Work(5, 9), Work(3, 4), Work(5, 6), Work(3, 9)]
        self.assertEqual([(work.begin, work.end) for work in in_order(works)], [(3, 4), (3, 9), (5, 9), (5, 6)])


class Texts(unittest.TestCase):
    def test_rosters_printed_are_read_as_they_were(self):
        chance = random.Random(5)
        for trial in range(40):
            text = rules(rest=chance.randrange(0, 700), week=chance.randrange(60, 10081))
            sentences = []
            for index in range(chance.randrange(1, 25)):
                sentences.append(f"pilot p{index} ;")
                first = chance.randrange(0, 109573)
                days = sorted([first, chance.randrange(0, 109573)])
                sentences.append(f"licence p{index} grade g {moment(days[0] * DAY)[:10]} to {moment(days[1] * DAY)[:10]} "
                                 "legs outer , inner ;")
                begin = chance.randrange(0, 109572 * DAY)
                sentences.append(f"leave p{index} {moment(begin)} to {moment(begin + chance.randrange(0, DAY))} ;")
            whole = text + "grade g long 77.7 draught 5.05 gross 77 ;\n" + "\n".join(sentences)
            once = self.printed(whole)
            self.assertEqual(self.printed(once), once)
            self.assertEqual(sorted(once.split("\n")), sorted((whole.replace("77.7", "77.70") + "\n").split("\n")))

    def printed(self, text):
        return as_text(talk((PORT, HARBOUR), (ROSTER, text), (TEXT,))[2][1:])

    def test_a_pilot_without_licence_never_goes(self):
        roster = (rules() + "pilot A ; pilot B ; grade g long 149.99 draught 30 gross 400000 ;"
                  "licence A grade g 1900-01-01 to 2199-12-31 legs inner ;")
        text = span(MONDAY, MONDAY + 10, ship=SHIP)
        self.assertEqual(talk((PORT, HARBOUR), (ROSTER, roster), (CHOOSE, text), (TAKE, text), (GIVE, 0, text),
                              (GIVE, 1, text))[2:], [[-5], [-5], [-7, 1], [-7, 1]])


if __name__ == "__main__":
    unittest.main()
