"""Turns, who's chosen, what is entered in the log."""

import unittest

from tests.helper import (
    CHOOSE, ENTRY, GIVE, HARBOUR, NAME, PORT, ROSTER, TAKE, TEXT, TURN, WHY, crew, free_rules, job, last, minute, rules,
    span, talk,
)

MONDAY = minute("2020-03-02 00:00")


def begin(roster):
    return [(PORT, HARBOUR), (ROSTER, roster)]


def at(first, behind, legs="inner"):
    return span(MONDAY + first, MONDAY + behind, legs)


THREE = begin(free_rules() + crew("ABC"))


class Turn(unittest.TestCase):
    def test_no_pilots(self):
        self.assertEqual(last(*begin(rules()), (TURN,)), [0])

    def test_pilots_without_work_by_number(self):
        self.assertEqual(last(*THREE, (TURN,)), [0, 0, 1, 2])
        many = begin(rules() + "".join(f"pilot p{index} ;" for index in range(24)))
        self.assertEqual(last(*many, (TURN,)), [0] + list(range(24)))

    def test_who_has_no_work_comes_first(self):
        self.assertEqual(last(*THREE, (GIVE, 0, at(0, 10)), (TURN,)), [0, 1, 2, 0])
        self.assertEqual(last(*THREE, (GIVE, 0, at(0, 10)), (GIVE, 1, at(0, 9)), (TURN,)), [0, 2, 1, 0])

    def test_the_earliest_end_first(self):
        told = [(GIVE, 0, at(0, 30)), (GIVE, 1, at(20, 29)), (GIVE, 2, at(5, 31))]
        self.assertEqual(last(*THREE, *told, (TURN,)), [0, 1, 0, 2])

    def test_alike_ones_by_number(self):
        told = [(GIVE, 2, at(0, 30)), (GIVE, 1, at(20, 30)), (GIVE, 0, at(29, 30))]
        self.assertEqual(last(*THREE, *told, (TURN,)), [0, 0, 1, 2])

    def test_the_latest_work_counts(self):
        told = [(GIVE, 0, at(500, 600)), (GIVE, 1, at(300, 400)), (GIVE, 2, at(100, 200)), (GIVE, 2, at(700, 800)),
                (GIVE, 0, at(10, 20))]
        self.assertEqual(last(*THREE, *told, (TURN,)), [0, 1, 0, 2])

    def test_a_pilot_with_the_earliest_work_there_can_be(self):
        told = [(GIVE, 0, job("1900-01-02 00:00", "1900-01-02 00:01"))]
        before = begin(free_rules(before=600) + crew("AB"))
        self.assertEqual(last(*before, *told, (TURN,)), [0, 1, 0])


class Choose(unittest.TestCase):
    def test_the_first_in_turn(self):
        self.assertEqual(talk(*THREE, (CHOOSE, at(0, 10)), (CHOOSE, at(0, 10)), (TURN,))[2:], [[0, 0], [0, 0], [0, 0, 1, 2]])

    def test_the_first_of_those_who_may(self):
        roster = free_rules() + crew("ABC", "leave A 2020-03-02 00:00 to 2020-03-03 00:00 ;")
        self.assertEqual(last(*begin(roster), (CHOOSE, at(0, 10))), [0, 1])
        self.assertEqual(last(*begin(roster), (CHOOSE, at(1440, 1450))), [0, 0])
        self.assertEqual(last(*begin(roster), (GIVE, 1, at(2000, 2010)), (CHOOSE, at(0, 10))), [0, 2])
        self.assertEqual(last(*begin(roster), (GIVE, 1, at(2000, 2010)), (GIVE, 2, at(5, 6)), (CHOOSE, at(0, 10))), [0, 1])

    def test_nobody_may(self):
        self.assertEqual(last(*begin(rules()), (CHOOSE, at(0, 10))), [-5])
        self.assertEqual(last(*begin(rules() + "pilot A ; pilot B ;"), (CHOOSE, at(0, 10))), [-5])
        told = [(GIVE, pilot, at(0, 10)) for pilot in range(3)]
        self.assertEqual(last(*THREE, *told, (CHOOSE, at(9, 10))), [-5])
        self.assertEqual(last(*THREE, *told, (CHOOSE, at(10, 11))), [0, 0])


class Take(unittest.TestCase):
    def test_entries_go_round(self):
        told = [(TAKE, at(10 * index, 10 * index + 10)) for index in range(5)]
        self.assertEqual(talk(*THREE, *told, (TURN,))[2:],
                         [[0, 1, 0], [0, 2, 1], [0, 3, 2], [0, 4, 0], [0, 5, 1], [0, 2, 0, 1]])

    def test_nobody_may(self):
        told = [(TAKE, at(0, 10))] * 4 + [(TURN,), (ENTRY, 4), (TAKE, at(10, 20))]
        self.assertEqual(talk(*THREE, *told)[2:],
                         [[0, 1, 0], [0, 2, 1], [0, 3, 2], [-5], [0, 0, 1, 2], [-4], [0, 4, 0]])


class Give(unittest.TestCase):
    def test_any_pilot_who_may(self):
        self.assertEqual(talk(*THREE, (GIVE, 2, at(0, 10)), (GIVE, 2, at(10, 20)), (GIVE, 0, at(0, 10)))[2:],
                         [[0, 1], [0, 2], [0, 3]])

    def test_no_such_pilot(self):
        told = [(GIVE, 3, at(0, 10)), (GIVE, 999999999, at(0, 10)), (GIVE, 2, at(0, 10))]
        self.assertEqual(talk(*THREE, *told)[2:], [[-4], [-4], [0, 1]])

    def test_the_first_kind(self):
        roster = (free_rules(duty=100, week=100, nights=1, night="00:00", till="04:00")
                  + crew("AB", "leave A 2020-03-02 00:00 to 2020-03-02 00:01 ;") + "pilot C ;")
        self.assertEqual(
            talk(*begin(roster), (GIVE, 2, at(0, 10)), (GIVE, 0, at(0, 200)), (GIVE, 1, at(600, 701)),
                 (GIVE, 1, at(1, 2)), (GIVE, 1, at(1, 200)), (GIVE, 1, at(600, 700)), (GIVE, 1, at(1440, 1441)))[2:],
            [[-7, 1], [-7, 2], [-7, 4], [0, 1], [-7, 3], [-7, 5], [-7, 6]])


class Entries(unittest.TestCase):
    def test_what_is_told(self):
        before = begin(free_rules(before=45, behind=15) + crew("AB"))
        told = [(GIVE, 1, job("1900-01-02 01:00", "1900-01-02 02:30", "outer , basin , inner")), (TAKE, at(0, 10))]
        self.assertEqual(
            talk(*before, *told, (ENTRY, 1), (ENTRY, 2), (ENTRY, 3), (ENTRY, 0), (ENTRY, 999999999))[4:],
            [[0, 1, 1500, 1590, 1455, 1605, 3], [0, 0, MONDAY, MONDAY + 10, MONDAY - 45, MONDAY + 25, 1], [-4], [-4], [-4]])

    def test_the_last_moment_of_all(self):
        before = begin(free_rules(behind=600) + crew("A"))
        minutes = 109572 * 1440 + 1439
        self.assertEqual(last(*before, (TAKE, job("2199-12-31 23:58", "2199-12-31 23:59")), (ENTRY, 1)),
                         [0, 0, minutes - 1, minutes, minutes - 1, minutes + 600, 1])

    def test_a_log_of_48(self):
        told = [(TAKE, at(10 * index, 10 * index + 10)) for index in range(48)]
        more = [(TAKE, at(9000, 9010)), (GIVE, 0, at(9000, 9010)), (GIVE, 3, at(9000, 9010)), (TAKE, at(0, 10)),
                (GIVE, 2, at(0, 1440)), (CHOOSE, at(9000, 9010)), (ENTRY, 48), (ENTRY, 49), (TAKE, "job ?"),
                (WHY, 0, at(0, 10))]
        given = talk(*THREE, *told, *more)[2:]
        self.assertEqual(given[:48], [[0, index + 1, index % 3] for index in range(48)])
        self.assertEqual(given[48:], [[-6], [-6], [-4], [-6], [-6], [0, 0],
                                      [0, 2, MONDAY + 470, MONDAY + 480, MONDAY + 470, MONDAY + 480, 1], [-4], [-2, 1, 4],
                                      [0, 3]])

    def test_nobody_may_and_the_log_is_full(self):
        told = [(GIVE, 0, at(10 * index, 10 * index + 10)) for index in range(48)]
        self.assertEqual(last(*begin(free_rules() + crew("A")), *told, (TAKE, at(0, 10))), [-6])


class NewLog(unittest.TestCase):
    def test_a_roster_begins_the_log_anew(self):
        roster = (ROSTER, free_rules() + crew("ABC"))
        self.assertEqual(
            talk(*THREE, (TAKE, at(0, 10)), (TAKE, at(0, 10)), roster, (ENTRY, 1), (TURN,), (TAKE, at(0, 10)))[2:],
            [[0, 1, 0], [0, 2, 1], [0], [-4], [0, 0, 1, 2], [0, 1, 0]])

    def test_a_port_ends_the_roster(self):
        self.assertEqual(
            talk(*THREE, (TAKE, at(0, 10)), (PORT, HARBOUR), (TEXT,), (TURN,), (ENTRY, 1), (CHOOSE, at(0, 10)), THREE[1],
                 (ENTRY, 1), (TAKE, at(0, 10)))[3:],
            [[0], [-3], [-3], [-3], [-3], [0], [-4], [0, 1, 0]])

    def test_the_new_ports_legs_count(self):
        other = HARBOUR.replace("leg inner", "leg upper")
        text = at(0, 10, "upper")
        roster = (ROSTER, free_rules() + crew("A").replace("inner", "upper"))
        self.assertEqual(last(*THREE, (CHOOSE, text)), [-2, 3, text.index("upper")])
        self.assertEqual(last(*THREE, (PORT, other), roster, (CHOOSE, text)), [0, 0])
        self.assertEqual(last(*THREE, (PORT, other), THREE[1])[:2], [-2, 3])


class Refused(unittest.TestCase):
    def test_nothing_changes(self):
        long = at(0, 10) + " " * 1024
        refused = [
            (PORT, "port"), (PORT, HARBOUR + " " * 4096), (ROSTER, "rules"), (ROSTER, rules() + " " * 8192),
            (NAME, 9), (WHY, 9, at(0, 10)), (WHY, 0, "job"), (WHY, 0, long), (CHOOSE, "job"), (CHOOSE, long),
            (CHOOSE, at(0, 1, "inner , outer")), (TAKE, "job"), (TAKE, long), (TAKE, at(0, 5)), (GIVE, 9, at(0, 10)),
            (GIVE, 0, "job"), (GIVE, 0, long), (GIVE, 0, at(0, 5)), (ENTRY, 0), (ENTRY, 4)]
        seen = [(TEXT,), (TURN,), (ENTRY, 1), (ENTRY, 2), (ENTRY, 3), (NAME, 2)]
        works = [(GIVE, 2, at(0, 10)), (GIVE, 0, at(0, 20)), (GIVE, 1, at(0, 30))]
        fresh = talk(*THREE, *works, *seen, (TAKE, at(100, 110)))[-7:]
        for call in refused:
            with self.subTest(call=call):
                given = talk(*THREE, *works, call, *seen, (TAKE, at(100, 110)))
                self.assertLess(given[5][0], 0)
                self.assertEqual(given[-7:], fresh)

    def test_a_refused_port_leaves_the_port(self):
        self.assertEqual(talk((PORT, HARBOUR), (PORT, "port"), THREE[1], (TURN,))[1:], [[-2, 2, 4], [0], [0, 0, 1, 2]])


if __name__ == "__main__":
    unittest.main()
