"""A roster's text: what it may hold, its bounds, its faults, how it is printed."""

import unittest

from tests.helper import HARBOUR, NAME, PORT, ROSTER, TEXT, as_text, check_faults, check_read, crew, last, rules, talk

BEFORE = [(PORT, HARBOUR)]
HEAD = rules() + "grade one long 100 draught 6 gross 5000 ;\npilot Anna ;\npilot Bo ;\n"
LICENCE = "licence Anna grade one 2020-01-01 to 2020-12-31 legs inner ;\n"
EIGHT = "port P keep 0 or 0 % ; place a ; place b ;\n" + "".join(
    f"leg l{index} from a to b miles 1 depth 1 wide 1 fast 1 ;\n" for index in range(10))


def printed(roster, port=HARBOUR):
    answer = last((PORT, port), (ROSTER, roster), (TEXT,))
    if answer[0] != 0:
        raise AssertionError(answer)
    return as_text(answer[1:])


class Read(unittest.TestCase):
    def test_rosters_that_are_right(self):
        check_read(self, BEFORE, ROSTER, [
            rules(),
            HEAD,
            HEAD + LICENCE,
            HEAD + "leave Anna 2020-01-01 00:00 to 2020-01-01 00:00 ;",
            HEAD + "licence Bo grade one 2020-01-01 to 2020-01-01 legs outer , inner , basin ; pilot Cy ;",
            rules() + "pilot pilot ; pilot rules ; pilot legs ; grade pilot long 5 draught 1 gross 1 ; pilot night ;",
            rules() + "grade a long 5 draught 1 gross 1 ; pilot a ; licence a grade a 1900-01-01 to 2199-12-31 legs inner ;",
        ])

    def test_a_text_of_none(self):
        for text in ("", " \n", "# rules"):
            self.assertEqual(last(*BEFORE, (ROSTER, text)), [-2, 2, len(text)])


class Names(unittest.TestCase):
    def test_pilots_are_numbered_as_they_are_told(self):
        text = rules() + "pilot Zed ; pilot Amy ;" + "grade g long 5 draught 1 gross 1 ;" + "pilot Bo_9 ;"
        self.assertEqual(
            talk(*BEFORE, (ROSTER, text), (NAME, 0), (NAME, 1), (NAME, 2), (NAME, 3), (NAME, 999999999))[2:],
            [[0, 90, 101, 100], [0, 65, 109, 121], [0, 66, 111, 95, 57], [-4], [-4]])

    def test_words_that_are_no_names(self):
        check_faults(self, BEFORE, ROSTER, [
            (2, HEAD + "pilot ^wait ;"), (2, HEAD + "grade ^of long 5"), (2, HEAD + "licence ^ship grade"),
            (2, HEAD + "leave ^to 2020-01-01"), (2, HEAD + "pilot ^7 ;"), (2, HEAD + "pilot ^; ;"),
            (2, HEAD + "licence Anna grade ^day 2020"), (2, (HEAD + LICENCE).replace("inner", "^closed")),
        ])

    def test_told_before_and_of_that_sort(self):
        check_faults(self, BEFORE, ROSTER, [
            (3, HEAD + "licence ^Cy grade one 2020-01-01 to 2020-12-31 legs inner ; pilot Cy ;"),
            (3, HEAD + "licence ^one grade one 2020-01-01 to 2020-12-31 legs inner ;"),
            (3, HEAD + "licence ^anna grade one 2020-01-01 to 2020-12-31 legs inner ;"),
            (3, HEAD + "licence Anna grade ^two 2020-01-01 to 2020-12-31 legs inner ;"),
            (3, HEAD + "licence Anna grade ^Anna 2020-01-01 to 2020-12-31 legs inner ;"),
            (3, HEAD + "licence Anna grade one 2020-01-01 to 2020-12-31 legs ^quay ;"),
            (3, HEAD + "licence Anna grade one 2020-01-01 to 2020-12-31 legs inner , ^Hafen ;"),
            (3, HEAD + "leave ^Cy 2020-01-01 00:00 to 2020-01-02 00:00 ;"),
            (3, rules() + "leave ^Anna 2020-01-01 00:00 to 2020-01-02 00:00 ;"),
        ])

    def test_none_twice_in_a_sort(self):
        check_faults(self, BEFORE, ROSTER, [
            (4, HEAD + "pilot ^Bo ;"), (4, HEAD + "grade ^one long 5 draught 1 gross 1 ;"),
            (4, HEAD + "licence Anna grade one 2020-01-01 to 2020-12-31 legs inner , outer , ^inner ;"),
        ])
        check_read(self, BEFORE, ROSTER, [HEAD + LICENCE + LICENCE, HEAD + "pilot one ; grade Bo long 5 draught 1 gross 1 ;"])


class Counts(unittest.TestCase):
    def test_grades_and_pilots(self):
        grades = "".join(f"grade n{index} long 5 draught 1 gross 1 ;" for index in range(8))
        pilots = "".join(f"pilot n{index} ;" for index in range(24))
        check_read(self, BEFORE, ROSTER, [rules() + grades + pilots])
        check_faults(self, BEFORE, ROSTER, [
            (6, rules() + grades + "grade ^n8 long"), (4, rules() + grades + "grade ^n0 long"),
            (2, rules() + grades + "grade ^or long"),
            (6, rules() + pilots + "pilot ^n24 ;"), (4, rules() + pilots + "pilot ^n23 ;"),
            (1, rules() + pilots + "pilot ^abcdefghijklmnop ;"),
        ])

    def test_licences(self):
        check_read(self, BEFORE, ROSTER, [HEAD + LICENCE * 64])
        check_faults(self, BEFORE, ROSTER, [
            (6, HEAD + LICENCE * 64 + "licence ^Anna grade"), (3, HEAD + LICENCE * 64 + "licence ^Cy grade"),
            (2, HEAD + LICENCE * 64 + "licence ^at grade"),
        ])

    def test_leaves(self):
        leave = "leave Bo 2020-01-01 00:00 to 2020-01-02 00:00 ;\n"
        check_read(self, BEFORE, ROSTER, [HEAD + leave * 48])
        check_faults(self, BEFORE, ROSTER, [
            (6, HEAD + leave * 48 + "leave ^Bo 2020"), (3, HEAD + leave * 48 + "leave ^Cy 2020"),
        ])

    def test_legs_in_a_row(self):
        head = HEAD + "licence Anna grade one 2020-01-01 to 2020-12-31 legs "
        eight = " , ".join(f"l{index}" for index in range(8))
        before = [(PORT, EIGHT)]
        check_read(self, before, ROSTER, [head + eight + " ;", head + "l9 ;"])
        check_faults(self, before, ROSTER, [
            (6, head + eight + " , ^l8 ;"), (4, head + eight + " , ^l7 ;"), (3, head + eight + " , ^l10 ;"),
            (2, head + eight + " , ^long ;"),
        ])


class Bounds(unittest.TestCase):
    def test_both_sides_of_each(self):
        forms = {
            rules(duty="{}"): ("60", "2880", "59", "2881", "100.0"),
            rules(rest="{}", night_rest=1440): ("0", "1440", "1441", "1.0", "999999999"),
            rules(rest=500, night_rest="{}"): ("500", "2880", "499", "2881", "600.0"),
            rules(nights="{}"): ("1", "14", "0", "15", "2.0"),
            rules(week="{}"): ("60", "10080", "59", "10081", "60.0"),
            rules(before="{}"): ("0", "600", "601", "1.5", "999999999"),
            rules(behind="{}"): ("0", "600", "601", "1.5", "999999999"),
            HEAD + "grade g long {} draught 6 gross 5000 ;": ("5", "500.00", "4.99", "500.01", "5.000"),
            HEAD + "grade g long 100 draught {} gross 5000 ;": ("0.50", "30.0", "0.49", "30.01", "1.000"),
            HEAD + "grade g long 100 draught 6 gross {} ;": ("1", "400000", "0", "400001", "1.0"),
        }
        for form, values in forms.items():
            check_read(self, BEFORE, ROSTER, [form.replace("{}", value) for value in values[:2]])
            check_faults(self, BEFORE, ROSTER, [(5, form.replace("{}", "^" + value)) for value in values[2:]])

    def test_the_night_has_two_times(self):
        check_read(self, BEFORE, ROSTER, [rules(night="00:00", till="23:59"), rules(night="23:59", till="00:00")])
        check_faults(self, BEFORE, ROSTER, [
            (5, rules(night="22:00", till="^22:00")), (5, rules(night="00:00", till="^00:00")),
            (1, rules(night="^24:00")), (1, rules(till="^06:60")), (2, rules(night="^600")), (2, rules(till="^6")),
        ])

    def test_a_licences_days(self):
        head = HEAD + "licence Bo grade one 2020-02-29 to "
        check_read(self, BEFORE, ROSTER, [head + "2020-02-29 legs inner ;", head + "2020-03-01 legs inner ;"])
        check_faults(self, BEFORE, ROSTER, [
            (5, head + "^2020-02-28 legs inner ;"), (5, head + "^1900-01-01 legs ?"), (5, head + "^2020-02-28 ?"),
            (2, head + "2020-02-29 ^00:00 legs"), (2, head + "^00:00"),
        ])

    def test_a_leaves_moments(self):
        head = HEAD + "leave Bo 2020-02-29 12:00 to "
        check_read(self, BEFORE, ROSTER, [
            head + "2020-02-29 12:00 ;", head + "2020-02-29 12:01 ;", head + "2199-12-31 23:59 ;",
            HEAD + "leave Bo 1900-01-01 00:00 to 2199-12-31 23:59 ;"])
        check_faults(self, BEFORE, ROSTER, [
            (5, head + "^2020-02-29 11:59 ;"), (5, head + "^2020-02-28 23:59 ?"), (5, head + "^2020-02-28 13:00 ;"),
            (2, head + "2020-02-28 ^;"), (1, head + "2020-02-28 ^24:00 ;"), (2, head + "2020-02-28^"),
            (2, head + "2020-02-28 ^2020-02-28"), (2, HEAD + "leave Bo 2020-02-29 ^to"),
        ])


class Order(unittest.TestCase):
    def test_what_can_not_stand_there(self):
        check_faults(self, BEFORE, ROSTER, [
            (2, "^pilot Anna ;"), (2, HEAD + "^rules duty 60"), (2, HEAD + "^;"), (2, HEAD + "^job"),
            (2, HEAD + "^port"), (2, HEAD + "pilot Cy ^pilot Di ;"), (2, HEAD + "pilot Cy ^, Di ;"),
            (2, HEAD + "licence Anna grade one 2020-01-01 to 2020-12-31 legs inner ^outer ;"),
            (2, HEAD + "licence Anna grade one 2020-01-01 to 2020-12-31 legs inner , ^;"),
            (2, HEAD + "licence Anna grade one 2020-01-01 to 2020-12-31 legs ^;"),
            (2, HEAD + "licence Anna grade one 2020-01-01 to 2020-12-31 ^inner ;"),
            (2, HEAD + "licence Anna grade one 2020-01-01 ^2020-12-31 legs inner ;"),
            (2, HEAD + "licence Anna ^2020-01-01 to 2020-12-31 legs inner ;"),
            (2, HEAD + "grade g ^draught 5"), (2, HEAD + "grade g long 5 ^gross 5"),
            (2, HEAD + "grade g long 5 draught 5 ^;"), (2, HEAD + "grade g long ^-5 draught"),
            (2, "rules ^rest 5"), (2, "rules duty 60 rest 5 night 22:00 ^06:00"), (2, "rules duty ^-60"),
        ])

    def test_where_the_text_ends(self):
        whole = (rules() + "grade one long 100 draught 6 gross 5000 ; pilot Anna ; licence Anna grade one 2020-01-01 "
                 "to 2020-12-31 legs inner , outer ; leave Anna 2020-01-01 00:00 to 2020-01-02 00:00 ;")
        for end in [index for index in range(len(whole)) if whole[index] == " "]:
            text = whole[:end]
            if not text.endswith(";"):
                with self.subTest(text=text):
                    self.assertEqual(last(*BEFORE, (ROSTER, text)), [-2, 2, end])

    def test_what_is_no_token(self):
        whole = HEAD + LICENCE + "leave Anna 2020-01-01 00:00 to 2020-01-02 00:00 ;"
        for place in [index for index in range(len(whole)) if whole[index] == " "]:
            with self.subTest(place=place):
                text = whole[:place] + " ! " + whole[place:]
                self.assertEqual(last(*BEFORE, (ROSTER, text)), [-2, 1, place + 1])


class Printed(unittest.TestCase):
    MIXED = (
        "rules  duty 0720 rest 600 night 22:00 to 06:00 rest 720 nights 03 week 4000 before 60 behind 5 ; # rules\n"
        "pilot Bo;pilot Anna ;\r\n leave Bo 1900-01-01 00:00 to 2199-12-31 23:59;\n"
        "grade two long 500 draught 30.0 gross 400000 ; grade one long 99.5 draught 0.50 gross 00001;\n"
        "licence Anna grade one 2000-02-29 to 2100-03-01 legs outer,inner,basin ; pilot Cy ;\n"
        "licence Bo grade two 1999-12-31 to 2000-01-01 legs basin;leave Anna 2024-02-29 09:05 to 2024-02-29 09:05 ;\n")
    PLAIN = (
        "rules duty 720 rest 600 night 22:00 to 06:00 rest 720 nights 3 week 4000 before 60 behind 5 ;\n"
        "grade two long 500.00 draught 30.00 gross 400000 ;\n"
        "grade one long 99.50 draught 0.50 gross 1 ;\n"
        "pilot Bo ;\npilot Anna ;\npilot Cy ;\n"
        "licence Anna grade one 2000-02-29 to 2100-03-01 legs outer , inner , basin ;\n"
        "licence Bo grade two 1999-12-31 to 2000-01-01 legs basin ;\n"
        "leave Bo 1900-01-01 00:00 to 2199-12-31 23:59 ;\n"
        "leave Anna 2024-02-29 09:05 to 2024-02-29 09:05 ;\n")

    def test_each_sort_in_its_order(self):
        self.assertEqual(printed(self.MIXED), self.PLAIN)

    def test_printed_it_is_read_as_it_was(self):
        self.assertEqual(printed(self.PLAIN), self.PLAIN)
        for text in (rules(), HEAD + LICENCE * 30, rules() + crew(["A", "b_1", "Z9"]), HEAD, self.MIXED):
            once = printed(text)
            self.assertEqual(printed(once), once)

    def test_the_rules_alone(self):
        self.assertEqual(printed(rules(night="00:00", till="23:59", rest=0)), rules(night="00:00", till="23:59", rest=0))

    def test_blanks_and_remarks_change_nothing(self):
        text = self.PLAIN.replace(" ", "\t#x ;\n\r ")
        self.assertEqual(printed(text), self.PLAIN)


if __name__ == "__main__":
    unittest.main()
