"""A job's text and its ship's sentence: bounds, faults, how they are printed."""

import unittest

from pilothall.jobs import job_text, read_job_text
from tests.helper import (
    CHOOSE, GIVE, HARBOUR, PORT, ROSTER, SHIP, TAKE, WHY, as_bytes, check_faults, crew, free_rules, job, last, talk,
)

BEFORE = [(PORT, HARBOUR), (ROSTER, free_rules() + crew("A"))]
HEAD = "job 2020-03-01 10:00 to 2020-03-01 12:00 legs inner ;\n"


def faults(case, rows):
    check_faults(case, BEFORE, CHOOSE, rows)


def may(case, texts):
    for text in texts:
        with case.subTest(text=text):
            case.assertEqual(last(*BEFORE, (CHOOSE, text)), [0, 0])


class Moments(unittest.TestCase):
    def test_not_on_the_first_day(self):
        may(self, [job("1900-01-02 00:00", "1900-01-02 00:01")])
        faults(self, [
            (5, job("^1900-01-01 23:59", "1900-01-02 01:00")), (5, "job ^1900-01-01 ?"), (5, "job ^1900-01-01"),
            (1, "job ^1899-12-31 10:00 to"), (2, "job ^10:00 to"), (2, "job 2020-03-01 ^to"), (2, "job ^to"),
        ])

    def test_the_second_is_behind_the_first(self):
        may(self, [
            job("2020-03-01 10:00", "2020-03-01 10:01"), job("2020-03-01 10:00", "2020-03-03 10:00"),
            job("2020-03-01 23:59", "2020-03-02 00:00"), job("2199-12-31 23:58", "2199-12-31 23:59"),
        ])
        faults(self, [
            (5, job("2020-03-01 10:00", "^2020-03-01 10:00")), (5, job("2020-03-01 10:00", "^2020-03-01 09:59")),
            (5, job("2020-03-01 10:00", "^2020-03-03 10:01")), (5, job("2020-03-01 10:00", "^2020-02-29 10:01")),
            (5, job("2020-03-01 10:00", "^1900-01-01 10:01")), (5, job("2020-03-01 10:00", "^2199-12-31 10:01")),
        ])

    def test_it_is_told_once_the_time_is_read(self):
        faults(self, [
            (2, "job 2020-03-01 10:00 to 2020-02-01 ^legs"), (1, "job 2020-03-01 10:00 to 2020-02-01 ^12:61"),
            (2, "job 2020-03-01 10:00 to 2020-02-01^"), (5, "job 2020-03-01 10:00 to ^2020-02-01 12:00 ?"),
            (2, "job 2020-03-01 10:00 to ^12:00"), (2, "job 2020-03-01 10:00 ^2020-03-01 12:00"),
        ])


class Legs(unittest.TestCase):
    def test_a_row_of_them(self):
        may(self, [job("2020-03-01 10:00", "2020-03-01 12:00", "inner,outer ,basin")])
        head = "job 2020-03-01 10:00 to 2020-03-01 12:00 "
        faults(self, [
            (3, head + "legs ^quay ;"), (3, head + "legs inner , ^A ;"), (4, head + "legs inner , outer , ^inner ;"),
            (2, head + "legs ^;"), (2, head + "legs inner ^outer ;"), (2, head + "legs inner , ^;"),
            (2, head + "legs inner ^/ ;"), (1, head + "legs inner ^. ;"), (2, head + "^inner ;"),
            (2, head + "legs ^from ;"), (2, head + "legs inner^"),
        ])

    def test_eight_at_most(self):
        port = "port P keep 0 or 0 % ; place a ; place b ;" + "".join(
            f"leg l{index} from a to b miles 1 depth 1 wide 1 fast 1 ;" for index in range(9))
        before = [(PORT, port), (ROSTER, free_rules() + "pilot A ;")]
        eight = "legs " + " , ".join(f"l{index}" for index in range(8))
        head = "job 2020-03-01 10:00 to 2020-03-01 12:00 "
        self.assertEqual(last(*before, (CHOOSE, head + eight + " ; " + SHIP)), [-5])
        check_faults(self, before, CHOOSE, [
            (6, head + eight + " , ^l8 ;"), (4, head + eight + " , ^l0 ;"), (3, head + eight + " , ^l9 ;")])


class Ships(unittest.TestCase):
    def test_both_sides_of_each_bound(self):
        words = {
            "long 150": ("long", "5", "500.00", "4.99", "500.01", "150.000"),
            "beam 22": ("beam", "1", "100.00", "0.99", "100.01", "22.000"),
            "draught 8": ("draught", "0.50", "30", "0.49", "30.01", "8.000"),
            "high 30": ("high", "1.0", "100", "0.99", "100.01", "30.000"),
            "block 0.8": ("block", "0.30", "0.95", "0.29", "0.96", "0.800"),
            "gross 12000": ("gross", "1", "400000", "0", "400001", "1.0"),
            "board 4": ("board", "0", "40.00", "40.01", "41", "4.000"),
        }
        for old, (word, *values) in words.items():
            may(self, [HEAD + SHIP.replace(old, word + " " + value) for value in values[:2]])
            faults(self, [(5, HEAD + SHIP.replace(old, word + " ^" + value)) for value in values[2:]])
            faults(self, [(2, HEAD + SHIP.replace(old, word + " ^-1"))])
            faults(self, [(2, HEAD + SHIP.replace(old, "^;"))])

    def test_names(self):
        may(self, [HEAD + SHIP.replace("Gerda", "job").replace("tanker", "job"), HEAD + SHIP.replace("Gerda", "inner")])
        faults(self, [
            (2, HEAD + SHIP.replace("Gerda", "^kind")), (2, HEAD + SHIP.replace("tanker", "^light")),
            (1, HEAD + SHIP.replace("Gerda", "^a23456789012345x")), (2, HEAD + SHIP.replace("Gerda", "^9")),
        ])
        may(self, [HEAD + SHIP.replace("Gerda", "a23456789012345")])

    def test_nothing_is_left_out(self):
        text = HEAD + SHIP
        for end in [index for index in range(len(text)) if text[index] == " "]:
            with self.subTest(end=end):
                self.assertEqual(last(*BEFORE, (CHOOSE, text[:end])), [-2, 2, end])

    def test_what_is_no_token(self):
        text = HEAD + SHIP
        for end in [index for index in range(len(text)) if text[index] == " "]:
            with self.subTest(end=end):
                self.assertEqual(last(*BEFORE, (CHOOSE, text[:end] + " $" + text[end:])), [-2, 1, end + 1])


class One(unittest.TestCase):
    def test_nothing_stands_behind_it(self):
        may(self, [HEAD + SHIP + "\n# no more"])
        faults(self, [
            (2, HEAD + SHIP + " ^" + HEAD), (2, HEAD + SHIP + "^;"), (1, HEAD + SHIP + " ^?"), (2, HEAD + "^" + HEAD),
            (2, "^by A " + HEAD), (2, "^ship"), (2, "^"), (2, "   ^"),
        ])

    def test_the_same_faults_for_each_call(self):
        text = HEAD + SHIP.replace("board 4", "board 41")
        place = text.index("41")
        self.assertEqual(
            talk(*BEFORE, (WHY, 0, text), (CHOOSE, text), (TAKE, text), (GIVE, 0, text))[2:], [[-2, 5, place]] * 4)


class Printed(unittest.TestCase):
    def test_one_text(self):
        text = ("job 2020-02-29 09:05 to 2020-03-01 00:00 legs outer , inner ;\n"
                "ship Gerda kind tanker long 150.00 beam 22.50 draught 8.05 high 30.00 block 0.80 gross 12000 board 0.00 ;\n")
        loose = ("job 2020-02-29 09:05 to 2020-03-01 00:00#\nlegs outer,inner;ship Gerda kind tanker long 150 beam 22.5 "
                 "draught 8.05 high 030.0 block 0.8 gross 012000 board 0;")
        legs = ["inner", "outer"]
        self.assertEqual(job_text(read_job_text(as_bytes(loose), legs)), text)
        self.assertEqual(job_text(read_job_text(as_bytes(text), legs)), text)


if __name__ == "__main__":
    unittest.main()
