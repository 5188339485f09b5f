"""A pilot's minutes of work, duties and nights, as the calls work, duty and nights tell them."""

import unittest

from tests.helper import (
    CANCEL, DUTY, GIVE, HARBOUR, NIGHTS, PORT, ROSTER, WORK, crew, free_rules, job, last, minute, span, talk,
)

MONDAY = minute("2020-03-02 00:00")
DAY = 1440
FIRST = MONDAY // DAY


def begin(roster, works=(), pilot=0):
    """The roster, and works of a pilot, from minute to minute of the Monday or as a job's text."""
    told = [(PORT, HARBOUR), (ROSTER, roster)]
    for work in works:
        told.append((GIVE, pilot, work if isinstance(work, str) else span(MONDAY + work[0], MONDAY + work[1])))
    if any(answer[0] != 0 for answer in talk(*told)):
        raise AssertionError(talk(*told))
    return told


class Work(unittest.TestCase):
    def check(self, before, rows):
        for first, behind, minutes in rows:
            with self.subTest(first=first, behind=behind):
                self.assertEqual(last(*before, (WORK, 0, MONDAY + first, MONDAY + behind)), [0, minutes])

    def test_one_work(self):
        self.check(begin(free_rules() + crew("A"), [(100, 200)]), [
            (100, 200, 100), (0, 300, 100), (100, 101, 1), (199, 200, 1), (120, 150, 30), (0, 100, 0), (200, 300, 0),
            (0, 101, 1), (199, 300, 1), (150, 150, 0), (100, 100, 0), (99, 99, 0)])

    def test_several(self):
        self.check(begin(free_rules() + crew("A"), [(100, 200), (300, 350), (200, 210), (0, 5)]), [
            (0, 400, 165), (3, 205, 107), (150, 310, 70), (210, 300, 0)])

    def test_before_and_behind_count(self):
        self.check(begin(free_rules(before=10, behind=20) + crew("A"), [(100, 200)]), [
            (0, 300, 130), (90, 220, 130), (91, 219, 128), (0, 90, 0), (220, 300, 0)])

    def test_all_time(self):
        before = begin(free_rules() + crew("AB"), [(100, 200), (5 * DAY, 6 * DAY)])
        self.assertEqual(last(*before, (WORK, 0, 0, 999999999)), [0, 100 + DAY])
        self.assertEqual(last(*before, (WORK, 0, 999999999, 999999999)), [0, 0])
        self.assertEqual(last(*before, (WORK, 1, 0, 999999999)), [0, 0])
        self.assertEqual(last(*before, (CANCEL, 2), (WORK, 0, 0, 999999999)), [0, 100])

    def test_refusals(self):
        before = begin(free_rules() + crew("AB"), [(100, 200)])
        self.assertEqual(talk(*before, (WORK, 2, 0, 1), (WORK, 999999999, 0, 0), (WORK, 0, 1, 0), (WORK, 2, 1, 0))[3:],
                         [[-4], [-4], [-1], [-1]])
        self.assertEqual(talk((WORK, 0, 1, 0), (WORK, 0, 0, 1), (WORK, 0, 0, 0), (PORT, HARBOUR), (WORK, 0, 1, 0),
                              (WORK, 0, 1, 1)), [[-1], [-3], [-3], [0], [-1], [-3]])


class Duty(unittest.TestCase):
    RULES = dict(duty=2000, rest=100, night="22:00", till="04:00", night_rest=300)

    def check(self, works, rows, **changed):
        """Each row: the minute asked about; the beginning, the end, the night, how many works, when rested."""
        told = dict(self.RULES)
        told.update(changed)
        before = begin(free_rules(**told) + crew("A"), works)
        for at, *expected in rows:
            with self.subTest(at=at):
                shown = [expected[0] + MONDAY, expected[1] + MONDAY, expected[2], expected[3], expected[4] + MONDAY]
                self.assertEqual(last(*before, (DUTY, 0, MONDAY + at)), [0] + shown)

    def test_one_work(self):
        self.check([(300, 400)], [(300, 300, 400, 0, 1, 500), (350, 300, 400, 0, 1, 500), (9999, 300, 400, 0, 1, 500)])

    def test_no_such_work(self):
        before = begin(free_rules() + crew("AB"), [(300, 400)])
        self.assertEqual(talk(*before, (DUTY, 0, MONDAY + 299), (DUTY, 0, 0), (DUTY, 1, MONDAY + 300),
                              (DUTY, 0, 999999999))[3:],
                         [[-5], [-5], [-5], [0, MONDAY + 300, MONDAY + 400, 0, 1, MONDAY + 400]])

    def test_no_such_pilot(self):
        before = begin(free_rules() + crew("AB"), [(300, 400)])
        self.assertEqual(talk(*before, (DUTY, 2, 0), (DUTY, 999999999, 999999999))[3:], [[-4], [-4]])

    def test_only_works_that_begin_by_then(self):
        works = [(300, 400), (499, 600), (650, 700)]
        self.check(works, [
            (498, 300, 400, 0, 1, 500), (499, 300, 600, 0, 2, 700), (649, 300, 600, 0, 2, 700), (650, 300, 700, 0, 3, 800),
            (9999, 300, 700, 0, 3, 800)])
        self.check(list(reversed(works)), [(498, 300, 400, 0, 1, 500), (649, 300, 600, 0, 2, 700)])

    def test_a_new_duty(self):
        self.check([(300, 400), (500, 600)], [(499, 300, 400, 0, 1, 500), (500, 500, 600, 0, 1, 700)])
        self.check([(300, 400), (500, 600), (699, 800), (900, 910)],
                   [(500, 500, 600, 0, 1, 700), (899, 500, 800, 0, 2, 900), (900, 900, 910, 0, 1, 1010)])

    def test_at_a_night(self):
        self.check([(1300, 1320)], [(1300, 1300, 1320, 0, 1, 1420)])
        self.check([(1300, 1321)], [(1300, 1300, 1321, 1, 1, 1621)])
        self.check([(DAY + 239, DAY + 250)], [(9999, DAY + 239, DAY + 250, 1, 1, DAY + 550)])
        self.check([(DAY + 240, DAY + 250)], [(9999, DAY + 240, DAY + 250, 0, 1, DAY + 350)])

    def test_one_of_its_works_at_a_night(self):
        works = [(1200, 1250), (1310, 1330), (1629, 1700)]
        self.check(works, [
            (1200, 1200, 1250, 0, 1, 1350), (1310, 1200, 1330, 1, 2, 1630), (1629, 1200, 1700, 1, 3, 2000)])
        self.check([(1310, 1330), (1630, 1700)], [(1629, 1310, 1330, 1, 1, 1630), (1630, 1630, 1700, 1, 1, 2000)])
        self.check([(DAY + 200, DAY + 210), (DAY + 510, DAY + 600)],
                   [(9999, DAY + 510, DAY + 600, 0, 1, DAY + 700)])
        self.check([(DAY + 200, DAY + 210), (DAY + 509, DAY + 600)],
                   [(9999, DAY + 200, DAY + 600, 1, 2, DAY + 900)])

    def test_before_and_behind_count(self):
        wide = dict(before=10, behind=5)
        self.check([(300, 400), (515, 600)], [(290, 290, 405, 0, 1, 505), (504, 290, 405, 0, 1, 505),
                                              (505, 505, 605, 0, 1, 705)], **wide)
        self.check([(300, 400), (514, 600)], [(503, 290, 405, 0, 1, 505), (504, 290, 605, 0, 2, 705)], **wide)
        before = begin(free_rules(**wide) + crew("A"), [(300, 400)])
        self.assertEqual(last(*before, (DUTY, 0, MONDAY + 289)), [-5])

    def test_no_rest_asked_for(self):
        self.check([(300, 400), (400, 500)], [(9999, 400, 500, 0, 1, 500)], rest=0, night_rest=0)


class Nights(unittest.TestCase):
    def check(self, works, rows, night="22:00", till="04:00", **changed):
        """Each row: the day, counted from the Monday, and how many nights in a row."""
        before = begin(free_rules(night=night, till=till, **changed) + crew("AB"), works)
        for day, count in rows:
            with self.subTest(day=day):
                self.assertEqual(last(*before, (NIGHTS, 0, FIRST + day)), [0, count])

    def test_none(self):
        self.check([], [(0, 0), (-FIRST, 0), (999999999 - FIRST, 0)])
        self.check([(600, 700)], [(-1, 0), (0, 0), (1, 0)])

    def test_its_edges(self):
        self.check([(1300, 1320)], [(0, 0)])
        self.check([(1300, 1321)], [(-1, 0), (0, 1), (1, 0)])
        self.check([(240, 300)], [(-1, 0), (0, 0)])
        self.check([(239, 300)], [(-1, 1), (0, 0)])

    def test_a_night_that_goes_on_into_the_next_day(self):
        self.check([(DAY + 60, DAY + 120)], [(0, 1), (1, 0)])
        self.check([(DAY + 60, DAY + 120)], [(0, 0), (1, 1)], night="00:30", till="04:00")
        self.check([(DAY + 60, DAY + 120)], [(0, 1), (1, 0)], night="23:59", till="01:01")
        self.check([(DAY + 60, DAY + 120)], [(0, 0), (1, 0)], night="23:59", till="01:00")

    def test_several_in_a_row(self):
        works = [(DAY * day + 1330, DAY * day + 1340) for day in (0, 1, 2, 4)]
        self.check(works, [(-1, 0), (0, 1), (1, 2), (2, 3), (3, 0), (4, 1), (5, 0)])
        self.check(works + [(3 * DAY + 1430, 3 * DAY + 1450)], [(3, 4), (4, 5), (5, 0)])

    def test_one_work_at_several(self):
        self.check([(100, 100 + 2 * DAY)], [(-2, 0), (-1, 1), (0, 2), (1, 3), (2, 0)])

    def test_two_works_at_one(self):
        self.check([(1330, 1340), (1400, 1410), (DAY + 10, DAY + 20)], [(0, 1), (1, 0)])

    def test_before_and_behind_count(self):
        self.check([(1300, 1311)], [(0, 0)], behind=9)
        self.check([(1300, 1311)], [(0, 1)], behind=10)
        self.check([(249, 300)], [(-1, 0)], before=9)
        self.check([(249, 300)], [(-1, 1)], before=10)

    def test_days_before_the_first_have_none(self):
        before = begin(free_rules(night="23:00", till="22:00", before=600) + crew("A"),
                       [job("1900-01-02 00:00", "1900-01-02 00:01")])
        self.assertEqual(last(*before, (NIGHTS, 0, 0)), [0, 1])
        self.assertEqual(last(*before, (NIGHTS, 0, 1)), [0, 0])

    def test_other_pilots_works_do_not_count(self):
        before = begin(free_rules(night="22:00", till="04:00") + crew("AB"), [(1330, 1340)], pilot=1)
        self.assertEqual(talk(*before, (NIGHTS, 0, FIRST), (NIGHTS, 1, FIRST))[3:], [[0, 0], [0, 1]])

    def test_no_such_pilot(self):
        before = begin(free_rules() + crew("AB"), [(300, 400)])
        self.assertEqual(talk(*before, (NIGHTS, 2, FIRST), (NIGHTS, 999999999, 999999999))[3:], [[-4], [-4]])


if __name__ == "__main__":
    unittest.main()
