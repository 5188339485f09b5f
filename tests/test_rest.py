"""Why a pilot can't take a job: each kind just at its edge and one minute beside it."""

import unittest

from tests.helper import (
    GIVE, HARBOUR, PORT, ROSTER, SHIP, WHY, crew, free_rules, job, last, minute, moment, span, talk,
)

MONDAY = minute("2020-03-02 00:00")
HOUR = 60
DAY = 1440


def why(roster, works, asked):
    """Why pilot 0, who has these works, can't take the asked job; a job is its two minutes or its text."""
    told = [(GIVE, 0, text_of(work)) for work in works]
    answers = talk((PORT, HARBOUR), (ROSTER, roster), *told, (WHY, 0, text_of(asked)))
    for answer in answers[:-1]:
        if answer[0] != 0:
            raise AssertionError(answers)
    return answers[-1]


def text_of(work):
    return work if isinstance(work, str) else span(MONDAY + work[0], MONDAY + work[1])


class Licensed(unittest.TestCase):
    HEAD = free_rules() + "grade g long 150 draught 8 gross 12000 ; grade big long 500 draught 30 gross 400000 ; pilot A ; "
    JOB = job("2020-03-02 10:00", "2020-03-03 10:00")

    def check(self, licences, asked, kinds):
        with self.subTest(licences=licences, asked=asked):
            self.assertEqual(why(self.HEAD + licences, [], asked), [0] + kinds)

    def test_days(self):
        self.check("licence A grade g 2020-03-02 to 2020-03-03 legs inner ;", self.JOB, [])
        self.check("licence A grade g 2020-03-03 to 2020-03-03 legs inner ;", self.JOB, [1])
        self.check("licence A grade g 2020-03-02 to 2020-03-02 legs inner ;", self.JOB, [1])
        self.check("licence A grade g 2020-03-02 to 2020-03-02 legs inner ; "
                   "licence A grade g 2020-03-03 to 2020-03-03 legs inner ;", self.JOB, [1])
        one = "licence A grade g 2020-03-02 to 2020-03-02 legs inner ;"
        self.check(one, job("2020-03-02 00:00", "2020-03-02 23:59"), [])
        self.check(one, job("2020-03-02 00:00", "2020-03-03 00:00"), [1])
        self.check(one, job("2020-03-01 23:59", "2020-03-02 23:59"), [1])

    def test_the_days_are_the_jobs_not_its_works(self):
        head = self.HEAD.replace("before 0 behind 0", "before 600 behind 600")
        roster = head + "licence A grade g 2020-03-02 to 2020-03-02 legs inner ;"
        self.assertEqual(why(roster, [], job("2020-03-02 00:00", "2020-03-02 23:59")), [0])

    def test_ships(self):
        licence = "licence A grade g 2020-01-01 to 2020-12-31 legs inner ;"
        for old, new, kinds in (
                ("long 150", "long 150.00", []), ("long 150", "long 150.01", [1]),
                ("draught 8", "draught 8.00", []), ("draught 8", "draught 8.01", [1]),
                ("gross 12000", "gross 12000", []), ("gross 12000", "gross 12001", [1]),
                ("beam 22", "beam 100", []), ("high 30", "high 100", [])):
            self.check(licence, job("2020-03-02 10:00", "2020-03-03 10:00", ship=SHIP.replace(old, new)), kinds)

    def test_legs(self):
        both = job("2020-03-02 10:00", "2020-03-03 10:00", "inner , outer")
        licence = "licence A grade g 2020-01-01 to 2020-12-31 legs {} ;"
        self.check(licence.replace("{}", "inner , outer"), both, [])
        self.check(licence.replace("{}", "outer , basin , inner"), both, [])
        self.check(licence.replace("{}", "inner"), both, [1])
        self.check(licence.replace("{}", "basin"), both, [1])
        self.check(licence.replace("{}", "inner") + licence.replace("{}", "outer"), both, [])
        self.check("", both, [1])

    def test_one_licence_is_right_in_all_for_a_leg(self):
        self.check("licence A grade g 2020-01-01 to 2020-12-31 legs outer ; "
                   "licence A grade g 2019-01-01 to 2019-12-31 legs inner ;", self.JOB, [1])
        big = job("2020-03-02 10:00", "2020-03-03 10:00", "inner , outer", SHIP.replace("long 150", "long 200"))
        self.check("licence A grade big 2020-01-01 to 2020-12-31 legs outer ; "
                   "licence A grade g 2020-01-01 to 2020-12-31 legs inner ;", big, [1])
        self.check("licence A grade big 2020-01-01 to 2020-12-31 legs outer ; "
                   "licence A grade big 2020-01-01 to 2020-12-31 legs inner ;", big, [])

    def test_a_licence_is_its_pilots_alone(self):
        roster = self.HEAD + "pilot B ; licence B grade g 2020-01-01 to 2020-12-31 legs inner ;"
        before = [(PORT, HARBOUR), (ROSTER, roster)]
        self.assertEqual(talk(*before, (WHY, 0, self.JOB), (WHY, 1, self.JOB))[2:], [[0, 1], [0]])

    def test_with_other_kinds(self):
        roster = self.HEAD + "leave A 2020-03-02 11:00 to 2020-03-02 12:00 ;"
        self.assertEqual(why(roster, [], self.JOB), [0, 1, 2])


class Leaves(unittest.TestCase):
    def check(self, leave, asked, kinds, before=0, behind=0, pilot="A"):
        told = f"leave {pilot} {moment(MONDAY + leave[0])} to {moment(MONDAY + leave[1])} ;"
        roster = free_rules(before=before, behind=behind) + crew("AB", told)
        with self.subTest(leave=leave, asked=asked):
            self.assertEqual(why(roster, [], asked), [0] + kinds)

    def test_at_its_ends(self):
        self.check((600, 700), (500, 600), [])
        self.check((600, 700), (500, 601), [2])
        self.check((600, 700), (700, 800), [])
        self.check((600, 700), (699, 800), [2])
        self.check((600, 700), (630, 640), [2])
        self.check((600, 700), (500, 800), [2])
        self.check((600, 700), (630, 640), [], pilot="B")

    def test_a_leave_of_no_length(self):
        self.check((600, 600), (599, 601), [2])
        self.check((600, 600), (600, 700), [])
        self.check((600, 600), (500, 600), [])

    def test_the_work_goes_beyond_the_job(self):
        self.check((600, 700), (500, 590), [], behind=10)
        self.check((600, 700), (500, 590), [2], behind=11)
        self.check((600, 700), (710, 800), [], before=10)
        self.check((600, 700), (710, 800), [2], before=11)


class Laps(unittest.TestCase):
    def check(self, works, asked, kinds, **changed):
        with self.subTest(works=works, asked=asked):
            self.assertEqual(why(free_rules(**changed) + crew("A"), works, asked), [0] + kinds)

    def test_behind_a_work(self):
        self.check([(600, 700)], (700, 800), [])
        self.check([(600, 700)], (699, 800), [3])

    def test_before_a_work(self):
        self.check([(600, 700)], (500, 600), [])
        self.check([(600, 700)], (500, 601), [3])

    def test_that_begin_alike(self):
        self.check([(600, 700)], (600, 700), [3])
        self.check([(600, 700)], (600, 601), [3])
        self.check([(600, 700)], (600, 900), [3])

    def test_a_work_far_before_that_goes_on(self):
        self.check([(0, 100), (600, 700)], (50, 60), [3])
        self.check([(0, 100), (600, 700)], (100, 600), [])
        self.check([(0, 100), (600, 700)], (90, 610), [3])

    def test_before_and_behind_count(self):
        self.check([(600, 700)], (730, 800), [], before=20, behind=10)
        self.check([(600, 700)], (729, 800), [3], before=20, behind=10)


class Duties(unittest.TestCase):
    DAYTIME = dict(duty=600, rest=100, night="22:00", till="04:00", night_rest=300)

    def check(self, works, asked, kinds, **changed):
        told = dict(self.DAYTIME)
        told.update(changed)
        with self.subTest(works=works, asked=asked, told=told):
            self.assertEqual(why(free_rules(**told) + crew("A"), works, asked), [0] + kinds)

    def test_one_work(self):
        self.check([], (300, 900), [])
        self.check([], (300, 901), [4])
        self.check([], (301, 901), [])
        self.check([], (310, 900), [], before=10)
        self.check([], (309, 900), [4], before=10)

    def test_rest_by_day(self):
        self.check([(300, 500)], (600, 1000), [])
        self.check([(300, 500)], (599, 900), [])
        self.check([(300, 500)], (599, 901), [4])
        self.check([(300, 500)], (600, 1200), [])
        self.check([(300, 500)], (600, 1201), [4])

    def test_no_rest_asked_for(self):
        self.check([(300, 500)], (500, 1100), [], rest=0)
        self.check([(300, 500)], (500, 1100), [4], rest=1)
        self.check([(300, 500)], (499, 1100), [3, 4], rest=0)

    def test_several_works(self):
        self.check([(300, 400), (499, 550), (649, 700)], (799, 900), [])
        self.check([(300, 400), (499, 550), (649, 700)], (799, 901), [4])
        self.check([(300, 400), (499, 550), (649, 700)], (800, 901), [])

    def test_a_job_between_binds_two_duties(self):
        self.check([(300, 500), (700, 1000)], (600, 601), [])
        self.check([(300, 500), (700, 1000)], (599, 600), [])
        self.check([(300, 500), (700, 1000)], (599, 601), [4])

    def test_a_later_work_may_get_wrong(self):
        self.check([(900, 1200)], (599, 801), [4])
        self.check([(900, 1200)], (599, 800), [])
        self.check([(900, 1200)], (600, 801), [])

    def test_the_latest_end_counts_not_the_last_works(self):
        self.check([(300, 800)], (400, 500), [3])
        self.check([(300, 400), (890, 910)], (310, 800), [3, 4])

    def test_rest_behind_a_night(self):
        night = 22 * HOUR
        self.check([(night - 100, night)], (night + 100, night + 600), [])
        self.check([(night - 100, night)], (night + 99, night + 501), [4])
        self.check([(night - 100, night + 1)], (night + 300, night + 500), [])
        self.check([(night - 100, night + 1)], (night + 301, night + 901), [])
        self.check([(night - 100, night + 1)], (night + 300, night + 501), [4])

    def test_the_nights_end(self):
        morning = DAY + 4 * HOUR
        self.check([(morning, morning + 50)], (morning + 150, morning + 700), [])
        self.check([(morning - 1, morning + 50)], (morning + 150, morning + 600), [4])
        self.check([(morning - 1, morning + 50)], (morning + 349, morning + 600), [4])
        self.check([(morning - 1, morning + 50)], (morning + 350, morning + 900), [])

    def test_the_asked_works_own_night_does_not_count_for_the_rest_before_it(self):
        night = 22 * HOUR
        self.check([(night - 400, night - 100)], (night, night + 500), [])
        self.check([(night - 400, night - 100)], (night - 1, night + 500), [4])

    def test_a_night_early_in_the_duty_counts_on(self):
        day = dict(night="05:00", till="05:10")
        self.check([(309, 320), (400, 410)], (709, 909), [], **day)
        self.check([(309, 320), (400, 410)], (709, 910), [4], **day)
        self.check([(309, 320), (400, 410)], (710, 910), [], **day)
        self.check([(310, 320), (400, 410)], (510, 911), [], **day)


class Weeks(unittest.TestCase):
    FULL = [(day * DAY, day * DAY + 100) for day in range(6)]

    def check(self, works, asked, kinds, week=600, **changed):
        roster = free_rules(week=week, night="23:58", till="23:59", **changed) + crew("A")
        with self.subTest(works=works, asked=asked):
            self.assertEqual(why(roster, works, asked), [0] + kinds)

    def test_within_seven_days(self):
        self.check(self.FULL, (6 * DAY, 6 * DAY + 1), [5])
        self.check(self.FULL, (7 * DAY - 1, 7 * DAY), [5])
        self.check(self.FULL, (7 * DAY, 7 * DAY + 1), [])
        self.check(self.FULL, (7 * DAY, 7 * DAY + 100), [])
        self.check(self.FULL, (7 * DAY + 50, 7 * DAY + 150), [])
        self.check(self.FULL, (7 * DAY + 1, 7 * DAY + 100), [])
        self.check(self.FULL, (7 * DAY - 1, 7 * DAY + 100), [5])

    def test_a_work_that_lies_partly_in_the_seven_days(self):
        self.check([(0, 200)], (7 * DAY, 7 * DAY + 150), [], week=200)
        self.check([(0, 200)], (7 * DAY - 50, 7 * DAY + 100), [], week=250)
        self.check([(0, 200)], (7 * DAY - 51, 7 * DAY + 100), [5], week=250)

    def test_one_work(self):
        self.check([], (0, 600), [])
        self.check([], (0, 601), [5])
        self.check([], (10, 600), [], before=10)
        self.check([], (9, 600), [5], before=10)
        self.check([], (0, 590), [5], behind=11)

    def test_a_later_work_may_get_wrong(self):
        self.check(self.FULL[1:], (0, 100), [])
        self.check(self.FULL[1:], (0, 101), [5])
        self.check([(7 * DAY, 7 * DAY + 500)], (400, 600), [], week=600)
        self.check([(7 * DAY, 7 * DAY + 500)], (500, 700), [5], week=600)
        self.check([(7 * DAY, 7 * DAY + 500)], (400, 601), [5], week=600)

    def test_works_that_lap_count_each(self):
        self.check([(0, 400)], (200, 400), [3])
        self.check([(0, 400)], (199, 400), [3, 5])
        self.check([(0, 500)], (0, 101), [3])
        self.check([(100, 500)], (0, 500), [3, 5])

    def test_the_part_of_a_lapping_work_behind_its_end_does_not_count(self):
        self.check([(0, 600)], (500, 501), [3])
        self.check([(0, 600)], (598, 599), [3])
        self.check([(0, 600)], (599, 600), [3, 5])


class Nights(unittest.TestCase):
    def check(self, works, asked, kinds, nights=2, night="22:00", till="06:00", **changed):
        roster = free_rules(nights=nights, night=night, till=till, **changed) + crew("A")
        with self.subTest(works=works, asked=asked):
            self.assertEqual(why(roster, works, asked), [0] + kinds)

    @staticmethod
    def at(day, begin, end):
        return (day * DAY + begin, day * DAY + end)

    def test_over_midnight(self):
        works = [self.at(0, 1330, 1340), self.at(1, 1330, 1340)]
        self.check(works, self.at(2, 1300, 1320), [])
        self.check(works, self.at(2, 1300, 1321), [6])
        self.check(works, self.at(3, 360, 400), [])
        self.check(works, self.at(3, 359, 400), [6])
        self.check(works, self.at(3, 1330, 1340), [])
        self.check(works, self.at(2, 100, 110), [])

    def test_within_one_day(self):
        inside = dict(night="10:00", till="11:00")
        works = [self.at(0, 600, 610), self.at(1, 650, 660)]
        self.check(works, self.at(2, 500, 600), [], **inside)
        self.check(works, self.at(2, 500, 601), [6], **inside)
        self.check(works, self.at(2, 660, 700), [], **inside)
        self.check(works, self.at(2, 659, 700), [6], **inside)
        self.check(works, self.at(3, 600, 700), [], **inside)

    def test_a_gap_is_filled(self):
        works = [self.at(0, 1330, 1340), self.at(2, 1330, 1340)]
        self.check(works, self.at(1, 1330, 1340), [6])
        self.check(works, self.at(1, 500, 1320), [])
        self.check(works, self.at(1, 500, 1321), [6])

    def test_one_work_at_several_nights(self):
        self.check([], (1000, 1000 + 2 * DAY), [])
        self.check([], (1320 - 1, 1320 + 2 * DAY - 1), [])
        self.check([], (1320, 1320 + 2 * DAY), [])
        self.check([], (360 - 1, 360 - 1 + 2 * DAY), [6])
        self.check([], (360, 360 + 2 * DAY), [])
        self.check([], (1320, 1320 + 2 * DAY), [4, 6], behind=1)

    def test_before_and_behind_count(self):
        works = [self.at(0, 1330, 1340), self.at(1, 1330, 1340)]
        self.check(works, self.at(2, 1200, 1310), [], behind=10)
        self.check(works, self.at(2, 1200, 1311), [6], behind=10)

    def test_each_greatest_number(self):
        for nights in (1, 5, 14):
            works = [self.at(day, 1330, 1340) for day in range(nights)]
            self.check(works, self.at(nights, 1330, 1340), [6], nights=nights)
            self.check(works, self.at(nights + 1, 1330, 1340), [], nights=nights)
            self.check(works[1:], self.at(nights, 1330, 1340), [], nights=nights)
            self.check(works[1:], works[0], [], nights=nights)

    def test_two_works_at_one_night_are_one_night(self):
        works = [self.at(0, 1330, 1340), self.at(0, 1350, 1360), self.at(0, 1430, 1450)]
        self.check(works, self.at(1, 1330, 1340), [])

    def test_days_before_the_first_have_none(self):
        roster = free_rules(nights=1, night="20:00", till="19:00", before=600) + crew("A")
        # The work goes from 14:00 of the first day: at its night, but the one before it isn't there.
        self.assertEqual(why(roster, [], job("1900-01-02 00:00", "1900-01-02 00:30")), [0])
        self.assertEqual(why(roster, [], job("1900-01-03 00:00", "1900-01-03 00:30")), [0, 6])

    def test_behind_the_last_day(self):
        roster = free_rules(nights=1, night="08:00", till="09:00", behind=600) + crew("A")
        self.assertEqual(why(roster, [], job("2199-12-31 08:30", "2199-12-31 21:59")), [0])
        self.assertEqual(why(roster, [], job("2199-12-31 08:30", "2199-12-31 22:01")), [0, 6])


class Several(unittest.TestCase):
    def test_kinds_rise_and_come_once(self):
        roster = (free_rules(duty=60, week=60, nights=1, night="00:00", till="12:00")
                  + "grade g long 5 draught 1 gross 1 ; pilot A ; leave A 2020-03-02 00:00 to 2020-03-04 00:00 ;"
                  + "leave A 2020-03-02 00:00 to 2020-03-05 00:00 ;")
        self.assertEqual(why(roster, [], (0, 2880)), [0, 1, 2, 4, 5, 6])

    def test_all_of_them(self):
        roster = (free_rules(duty=60, week=60, nights=1, night="00:00", till="12:00")
                  + crew("A", "leave A 2020-03-02 02:00 to 2020-03-04 00:00 ;") + "grade small long 5 draught 1 gross 1 ;"
                  ).replace("grade any 1900-01-01 to 2199-12-31", "grade any 1900-01-01 to 2020-03-02")
        self.assertEqual(why(roster, [(0, 60)], (30, 2880)), [0, 1, 2, 3, 4, 5, 6])

    def test_another_pilots_works_do_not_count(self):
        told = [(PORT, HARBOUR), (ROSTER, free_rules() + crew("AB")), (GIVE, 1, text_of((0, 100)))]
        self.assertEqual(last(*told, (WHY, 0, text_of((0, 100)))), [0])
        self.assertEqual(last(*told, (WHY, 1, text_of((0, 100)))), [0, 3])


if __name__ == "__main__":
    unittest.main()
