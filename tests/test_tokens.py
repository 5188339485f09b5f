"""Tokens, alone and in a text."""

import calendar
import datetime
import unittest

from pilothall.days import day_number, day_text, moment_text, time_text
from pilothall.tokens import DAY, END, NONE, NUMBER, SIGN, TIME, WORD, token_at
from tests.helper import HARBOUR, PORT, ROSTER, as_bytes, check_faults, check_read, crew, last, rules

HEAD = "port P keep 0 or 0 % ;\n"


def tokens(told):
    found = []
    token = token_at(as_bytes(told), 0)
    while token.form not in (NONE, END):
        found.append((token.form, token.place, token.value))
        token = token_at(as_bytes(told), token.behind)
    found.append((token.form, token.place))
    return found


class Blanks(unittest.TestCase):
    def test_each_blank_stands_between(self):
        for blank in (" ", "\t", "\n", "\r", " \t\n\r ", "# all this\n", "#\n", " # x ; # y \n"):
            with self.subTest(blank=blank):
                self.assertEqual(last((PORT, HEAD.replace(" ", blank))), [0])

    def test_other_bytes_are_no_blanks(self):
        for byte in [b for b in range(256) if b not in (9, 10, 13, 32, 35)]:
            with self.subTest(byte=byte):
                told = as_bytes(HEAD) + [byte]
                kind = 2 if chr(byte).isascii() and (chr(byte).isalnum() or chr(byte) in ",;:%-()/+=*") else 1
                self.assertEqual(last((PORT, told)), [-2, kind, len(HEAD)])

    def test_a_remark_ends_at_the_line_end_alone(self):
        self.assertEqual(tokens("a # b \r c \n d"), [(WORD, 0, "a"), (WORD, 12, "d"), (END, 13)])

    def test_a_remark_up_to_the_texts_end(self):
        self.assertEqual(last((PORT, HEAD + "# gauge")), [0])
        self.assertEqual(last((PORT, "port P # keep 0 or 0 % ;")), [-2, 2, 24])

    def test_a_remark_right_behind_a_token(self):
        self.assertEqual(tokens("a#b\n1#2\n;"), [(WORD, 0, "a"), (NUMBER, 4, 1), (SIGN, 8, 59), (END, 9)])


class Words(unittest.TestCase):
    def test_what_a_word_holds(self):
        self.assertEqual(tokens("aZ_09-Q"), [(WORD, 0, "aZ_09"), (SIGN, 5, 45), (WORD, 6, "Q"), (END, 7)])
        every = "abcdefghijklmno pqrstuvwxyz ABCDEFGHIJKLMNO PQRSTUVWXYZ a0123456789_"
        self.assertEqual([token[2] for token in tokens(every)[:-1]], every.split())

    def test_no_word_begins_with_an_underscore(self):
        self.assertEqual(tokens("_a"), [(NONE, 0)])

    def test_length(self):
        self.assertEqual(last((PORT, HEAD + "place abcdefghijklmno ;")), [0])
        check_faults(self, [], PORT, [
            (1, HEAD + "place ^abcdefghijklmnop ;"),
            (1, HEAD + "^abcdefghijklmnop"),
            (1, HEAD + "place a ; # x\n ^" + "z" * 3000),
        ])


class Numbers(unittest.TestCase):
    def test_values(self):
        for text, value, decimals in (
                ("0", 0, 0), ("007", 7, 0), ("999999999", 999999999, 0), ("1.5", 15, 1), ("1.50", 150, 2),
                ("000000001.0009", 10009, 4), ("999999999.9999", 9999999999999, 4)):
            with self.subTest(text=text):
                token = token_at(as_bytes(text), 0)
                self.assertEqual((token.form, token.value, token.decimals), (NUMBER, value, decimals))
                self.assertEqual(token.behind, len(text))

    def test_too_many_digits_or_places(self):
        for text in ("1234567890", "0000000000", "1.00000", "1.12345", "1234567890.1"):
            with self.subTest(text=text):
                self.assertEqual(tokens(text), [(NONE, 0)])

    def test_a_point_without_a_digit_is_not_of_it(self):
        self.assertEqual(tokens("1."), [(NUMBER, 0, 1), (NONE, 1)])
        self.assertEqual(tokens("1.x"), [(NUMBER, 0, 1), (NONE, 1)])
        self.assertEqual(tokens("1.5.2"), [(NUMBER, 0, 15), (NONE, 3)])
        self.assertEqual(tokens(".5"), [(NONE, 0)])

    def test_nothing_of_a_word_right_behind(self):
        for text in ("1a", "1_", "1.5m", "12345Z"):
            with self.subTest(text=text):
                self.assertEqual(tokens(text), [(NONE, 0)])
        self.assertEqual(tokens("1-2"), [(NUMBER, 0, 1), (SIGN, 1, 45), (NUMBER, 2, 2), (END, 3)])


class Times(unittest.TestCase):
    def test_values(self):
        for text, value in (("00:00", 0), ("09:07", 547), ("23:59", 1439)):
            self.assertEqual(tokens(text), [(TIME, 0, value), (END, 5)])

    def test_no_such_time(self):
        for text in ("24:00", "23:60", "99:99", "12:000", "12:00a", "12:00_"):
            with self.subTest(text=text):
                self.assertEqual(tokens(text), [(NONE, 0)])

    def test_not_the_form_of_a_time(self):
        self.assertEqual(tokens("1:30"), [(NUMBER, 0, 1), (SIGN, 1, 58), (NUMBER, 2, 30), (END, 4)])
        self.assertEqual(tokens("12:3"), [(NUMBER, 0, 12), (SIGN, 2, 58), (NUMBER, 3, 3), (END, 4)])
        self.assertEqual(tokens("123:30"), [(NUMBER, 0, 123), (SIGN, 3, 58), (NUMBER, 4, 30), (END, 6)])
        self.assertEqual(tokens("12:30:45"), [(TIME, 0, 750), (SIGN, 5, 58), (NUMBER, 6, 45), (END, 8)])

    def test_minutes_printed(self):
        for minute in range(1440):
            self.assertEqual(tokens(time_text(minute)), [(TIME, 0, minute), (END, 5)])


class Days(unittest.TestCase):
    def test_every_day_there_is(self):
        first = datetime.date(1900, 1, 1).toordinal()
        for number in range(109573):
            date = datetime.date.fromordinal(first + number)
            text = date.isoformat()
            self.assertEqual(day_text(number), text)
            self.assertEqual(day_number(date.year, date.month, date.day), number)
            self.assertEqual(token_at(as_bytes(text), 0).value, number)

    def test_the_ends(self):
        self.assertEqual(tokens("1900-01-01"), [(DAY, 0, 0), (END, 10)])
        self.assertEqual(tokens("2199-12-31"), [(DAY, 0, 109572), (END, 10)])
        self.assertEqual(moment_text(109572 * 1440 + 1439), "2199-12-31 23:59")

    def test_leap_years(self):
        self.assertEqual(tokens("2000-02-29")[0][0], DAY)
        self.assertEqual(tokens("2024-02-29")[0][0], DAY)
        for text in ("1900-02-29", "2100-02-29", "2023-02-29", "2024-02-30"):
            self.assertEqual(tokens(text), [(NONE, 0)])

    def test_the_day_behind_each_months_last(self):
        for year in (1900, 2000, 2023, 2199):
            for month in range(1, 13):
                length = calendar.monthrange(year, month)[1]
                self.assertEqual(tokens(f"{year}-{month:02}-{length}")[0][0], DAY)
                self.assertEqual(tokens(f"{year}-{month:02}-{length + 1}"), [(NONE, 0)])

    def test_no_such_day(self):
        for text in ("1899-12-31", "2200-01-01", "2020-00-10", "2020-13-10", "2020-04-31", "2020-04-00", "2020-01-32",
                     "0000-00-00", "2020-01-011", "2020-01-01a", "2020-01-01_"):
            with self.subTest(text=text):
                self.assertEqual(tokens(text), [(NONE, 0)])

    def test_not_the_form_of_a_day(self):
        self.assertEqual([token[0] for token in tokens("2020-1-01")], [NUMBER, SIGN, NUMBER, SIGN, NUMBER, END])
        self.assertEqual([token[0] for token in tokens("12020-01-01")], [NUMBER, SIGN, NUMBER, SIGN, NUMBER, END])
        self.assertEqual([token[0] for token in tokens("2020-01-1")], [NUMBER, SIGN, NUMBER, SIGN, NUMBER, END])
        self.assertEqual([token[0] for token in tokens("2020-01-01-")], [DAY, SIGN, END])

    def test_in_a_roster(self):
        before = [(PORT, HARBOUR)]
        head = rules() + crew("A") + "licence A grade any "
        check_faults(self, before, ROSTER, [
            (1, head + "^2023-02-29 to 2024-01-01 legs inner ;"),
            (1, head + "2023-01-01 to ^2200-01-01 legs inner ;"),
            (2, head + "^2023 to 2024-01-01 legs inner ;"),
        ])
        check_read(self, before, ROSTER, [head + "1900-01-01 to 2199-12-31 legs inner ;"])


class Signs(unittest.TestCase):
    def test_each_is_a_token_of_its_own(self):
        self.assertEqual([token[2] for token in tokens(",;:%-()/+=*")[:-1]], as_bytes(",;:%-()/+=*"))

    def test_other_signs_are_none(self):
        for sign in "!\"$&'.<>?@[]\\^`{|}~_\x00\x0b\x0c\x7f\x80\xe4\xff":
            with self.subTest(sign=sign):
                self.assertEqual(tokens("a " + sign), [(WORD, 0, "a"), (NONE, 2)])


if __name__ == "__main__":
    unittest.main()
