"""A roster's text: the rules of work and rest, grades, pilots, licences, leaves."""

from pilothall.days import LAST_MINUTE, day_text, moment_text, time_text
from pilothall.printed import hundredths_text, row_text, sentence
from pilothall.reader import CANT_STAND, OUT_OF_BOUNDS, Reader
from pilothall.tokens import SEMICOLON

MOST_GRADES = 8
MOST_PILOTS = 24
MOST_LICENCES = 64
MOST_LEAVES = 48


class Rules:
    """The rules of work and rest; the night's two times are minutes of the day."""

    def __init__(self):
        self.duty = 0
        self.rest = 0
        self.night_begin = 0
        self.night_end = 0
        self.night_rest = 0
        self.nights = 0
        self.week = 0
        self.before = 0
        self.behind = 0


class Grade:
    """The longest, deepest, largest ship that a grade takes."""

    def __init__(self, name, length, draught, gross):
        self.name = name
        self.length = length
        self.draught = draught
        self.gross = gross


class Licence:
    """A pilot's licence: the pilot's number, the grade, the first and the last day, the legs' names."""

    def __init__(self, pilot, grade, first_day, last_day, legs):
        self.pilot = pilot
        self.grade = grade
        self.first_day = first_day
        self.last_day = last_day
        self.legs = legs


class Leave:
    """A pilot's leave: the pilot's number, the two moments."""

    def __init__(self, pilot, begin, end):
        self.pilot = pilot
        self.begin = begin
        self.end = end


class Roster:
    """All that a roster tells, each sort in its order; pilots are told by their names alone."""

    def __init__(self, rules):
        self.rules = rules
        self.grades = []
        self.pilots = []
        self.licences = []
        self.leaves = []


def read_second_time(reader, first):
    if reader.time_here() == first:
        reader.refuse(OUT_OF_BOUNDS)
    return reader.read_time()


def read_rules(reader):
    rules = Rules()
    reader.expect_word("rules")
    rules.duty = reader.read_word_number("duty", 0, 60, 2880)
    rules.rest = reader.read_word_number("rest", 0, 0, 1440)
    reader.expect_word("night")
    rules.night_begin = reader.read_time()
    reader.expect_word("to")
    rules.night_end = read_second_time(reader, rules.night_begin)
    rules.night_rest = reader.read_word_number("rest", 0, rules.rest, 2880)
    rules.nights = reader.read_word_number("nights", 0, 1, 14)
    rules.week = reader.read_word_number("week", 0, 60, 10080)
    rules.before = reader.read_word_number("before", 0, 0, 600)
    rules.behind = reader.read_word_number("behind", 0, 0, 600)
    reader.expect_sign(SEMICOLON)
    return rules


def grade_names(roster):
    return [grade.name for grade in roster.grades]


def read_grade(reader, roster):
    name = reader.read_new_name(grade_names(roster), MOST_GRADES)
    length = reader.read_word_number("long", 2, 500, 50000)
    draught = reader.read_word_number("draught", 2, 50, 3000)
    gross = reader.read_word_number("gross", 0, 1, 400000)
    roster.grades.append(Grade(name, length, draught, gross))


def read_licence(reader, roster, legs):
    name = reader.read_known_name_if_room(roster.pilots, len(roster.licences), MOST_LICENCES)
    reader.expect_word("grade")
    names = grade_names(roster)
    grade = roster.grades[names.index(reader.read_known_name(names))]
    first_day = reader.read_day(0)
    reader.expect_word("to")
    last_day = reader.read_day(first_day)
    reader.expect_word("legs")
    row = reader.read_leg_row(legs)
    roster.licences.append(Licence(roster.pilots.index(name), grade, first_day, last_day, row))


def read_leave(reader, roster):
    name = reader.read_known_name_if_room(roster.pilots, len(roster.leaves), MOST_LEAVES)
    begin = reader.read_moment(0)
    reader.expect_word("to")
    end = reader.read_later_moment(begin, LAST_MINUTE)
    roster.leaves.append(Leave(roster.pilots.index(name), begin, end))


def read_sentence(reader, roster, legs):
    if reader.took_word("grade"):
        read_grade(reader, roster)
    elif reader.took_word("pilot"):
        roster.pilots.append(reader.read_new_name(roster.pilots, MOST_PILOTS))
    elif reader.took_word("licence"):
        read_licence(reader, roster, legs)
    elif reader.took_word("leave"):
        read_leave(reader, roster)
    else:
        reader.refuse(CANT_STAND)
    reader.expect_sign(SEMICOLON)


def read_roster(told, legs):
    """The roster that a text tells, for a port with these legs."""
    reader = Reader(told)
    roster = Roster(read_rules(reader))
    while not reader.is_at_end():
        read_sentence(reader, roster, legs)
    return roster


def rules_text(rules):
    return sentence([
        "rules",
        "duty", str(rules.duty),
        "rest", str(rules.rest),
        "night", time_text(rules.night_begin), "to", time_text(rules.night_end),
        "rest", str(rules.night_rest),
        "nights", str(rules.nights),
        "week", str(rules.week),
        "before", str(rules.before),
        "behind", str(rules.behind),
    ])


def grade_text(grade):
    return sentence([
        "grade", grade.name,
        "long", hundredths_text(grade.length),
        "draught", hundredths_text(grade.draught),
        "gross", str(grade.gross),
    ])


def licence_text(roster, licence):
    return sentence([
        "licence", roster.pilots[licence.pilot],
        "grade", licence.grade.name,
        day_text(licence.first_day), "to", day_text(licence.last_day),
        "legs", row_text(licence.legs),
    ])


def leave_text(roster, leave):
    return sentence(["leave", roster.pilots[leave.pilot], moment_text(leave.begin), "to", moment_text(leave.end)])


def roster_text(roster):
    lines = [rules_text(roster.rules)]
    lines.extend([grade_text(grade) for grade in roster.grades])
    lines.extend([sentence(["pilot", name]) for name in roster.pilots])
    lines.extend([licence_text(roster, licence) for licence in roster.licences])
    lines.extend([leave_text(roster, leave) for leave in roster.leaves])
    return "".join(lines)
