"""What is cancelled, exchanged, handed on; a log's text told, judged, loaded."""

import unittest

from tests.helper import (
    CANCEL, CHOOSE, DUTY, ENTRY, GIVE, HAND, HARBOUR, JUDGE, LEAST, LOAD, LOG, NIGHTS, PORT, ROSTER, SHIP, SWAP, TAKE,
    TEXT, TURN, WHY, WORK, as_bytes, as_text, by, check_faults, check_read, crew, free_rules, last, minute, span, talk,
)

MONDAY = minute("2020-03-02 00:00")
DAY = 1440


def begin(roster):
    return [(PORT, HARBOUR), (ROSTER, roster)]


def at(first, behind, legs="inner"):
    return span(MONDAY + first, MONDAY + behind, legs)


def entry(name, first, behind, legs="inner"):
    return by(name, MONDAY + first, MONDAY + behind, legs)


THREE = begin(free_rules() + crew("ABC"))


def pilots_of(before, works, call, count):
    """What the call answers, and the pilots of the entries then (None: there's no such one)."""
    given = talk(*before, *works, call, *[(ENTRY, number + 1) for number in range(count)])[len(before) + len(works):]
    return given[0], [None if answer == [-4] else answer[1] for answer in given[1:]]


class Cancel(unittest.TestCase):
    WORKS = [(GIVE, 0, at(0, 10)), (GIVE, 1, at(0, 20)), (GIVE, 2, at(0, 30))]

    def test_the_entry_is_gone(self):
        given, pilots = pilots_of(THREE, self.WORKS, (CANCEL, 2), 3)
        self.assertEqual((given, pilots), ([0], [0, None, 2]))
        self.assertEqual(last(*THREE, *self.WORKS, (CANCEL, 2), (TURN,)), [0, 1, 0, 2])
        self.assertEqual(talk(*THREE, *self.WORKS, (WHY, 1, at(5, 6)), (CANCEL, 2), (WHY, 1, at(5, 6)))[5:],
                         [[0, 3], [0], [0]])

    def test_no_such_entry(self):
        for number in (0, 4, 999999999):
            given, pilots = pilots_of(THREE, self.WORKS, (CANCEL, number), 3)
            self.assertEqual((given, pilots), ([-4], [0, 1, 2]))
        self.assertEqual(talk(*THREE, *self.WORKS, (CANCEL, 1), (CANCEL, 1))[5:], [[0], [-4]])
        self.assertEqual(last(*THREE, (CANCEL, 1)), [-4])

    def test_its_number_is_not_given_again(self):
        told = [(CANCEL, 3), (TAKE, at(100, 110)), (CANCEL, 4), (GIVE, 0, at(200, 210)), (CANCEL, 1), (CANCEL, 2),
                (CANCEL, 5), (LOG,), (TAKE, at(0, 10)), (ENTRY, 3)]
        self.assertEqual(talk(*THREE, *self.WORKS, *told)[5:],
                         [[0], [0, 4, 2], [0], [0, 5], [0], [0], [0], [0], [0, 6, 0], [-4]])

    def test_a_new_roster_begins_anew(self):
        self.assertEqual(talk(*THREE, *self.WORKS, (CANCEL, 3), THREE[1], (CANCEL, 1), (TAKE, at(0, 10)))[5:],
                         [[0], [0], [-4], [0, 1, 0]])

    def test_a_full_log_has_room_again(self):
        works = [(TAKE, at(10 * index, 10 * index + 10)) for index in range(48)]
        told = [(TAKE, at(900, 910)), (CANCEL, 7), (TAKE, at(900, 910)), (TAKE, at(900, 910)), (GIVE, 1, at(950, 960))]
        self.assertEqual(talk(*THREE, *works, *told)[50:], [[-6], [0], [0, 49, 0], [-6], [-6]])


class Swap(unittest.TestCase):
    def test_the_pilots_change(self):
        works = [(GIVE, 0, at(0, 10)), (GIVE, 1, at(10, 20)), (GIVE, 2, at(0, 30)), (GIVE, 0, at(50, 60))]
        self.assertEqual(pilots_of(THREE, works, (SWAP, 1, 3), 4), ([0], [2, 1, 0, 0]))
        self.assertEqual(pilots_of(THREE, works, (SWAP, 4, 2), 4), ([0], [0, 0, 2, 1]))
        self.assertEqual(talk(*THREE, *works, (SWAP, 1, 3), (ENTRY, 1), (ENTRY, 3))[7:],
                         [[0, 2, MONDAY, MONDAY + 10, MONDAY, MONDAY + 10, 1], [0, 0, MONDAY, MONDAY + 30, MONDAY, MONDAY + 30, 1]])

    def test_no_such_entry(self):
        works = [(GIVE, 0, at(0, 10)), (GIVE, 1, at(0, 20))]
        for call in ((SWAP, 3, 1), (SWAP, 1, 3), (SWAP, 0, 0), (SWAP, 3, 3), (SWAP, 999999999, 2), (SWAP, 2, 0)):
            self.assertEqual(pilots_of(THREE, works, call, 2), ([-4], [0, 1]))

    def test_one_pilots(self):
        works = [(GIVE, 0, at(0, 10)), (GIVE, 0, at(20, 30))]
        for call in ((SWAP, 1, 2), (SWAP, 2, 1), (SWAP, 1, 1)):
            self.assertEqual(pilots_of(THREE, works, call, 2), ([-5], [0, 0]))

    def test_both_entries_are_taken_out(self):
        works = [(GIVE, 0, at(0, 100)), (GIVE, 1, at(50, 150))]
        self.assertEqual(talk(*THREE, *works, (WHY, 0, at(50, 150)), (WHY, 1, at(0, 100)))[4:], [[0, 3], [0, 3]])
        self.assertEqual(pilots_of(THREE, works, (SWAP, 1, 2), 2), ([0], [1, 0]))

    def test_the_other_works_stay(self):
        works = [(GIVE, 0, at(0, 100)), (GIVE, 1, at(200, 300)), (GIVE, 1, at(90, 95)), (GIVE, 0, at(290, 310))]
        self.assertEqual(pilots_of(THREE, works, (SWAP, 1, 2), 4), ([-7, 1, 3], [0, 1, 1, 0]))
        self.assertEqual(pilots_of(THREE, works, (SWAP, 2, 1), 4), ([-7, 2, 3], [0, 1, 1, 0]))
        self.assertEqual(pilots_of(THREE, works[:3], (SWAP, 2, 1), 3), ([-7, 1, 3], [0, 1, 1]))
        self.assertEqual(pilots_of(THREE, works[:2] + works[3:], (SWAP, 1, 2), 3), ([-7, 2, 3], [0, 1, 0]))

    def test_the_first_kind(self):
        roster = (free_rules(week=100) + crew("AB", "leave B 2020-03-02 00:00 to 2020-03-02 01:00 ;") + "pilot C ;"
                  "licence C grade any 1900-01-01 to 2199-12-31 legs basin ;")
        works = [(GIVE, 0, at(0, 100)), (GIVE, 1, at(100, 150)), (GIVE, 1, at(200, 250)), (GIVE, 2, at(0, 10, "basin"))]
        self.assertEqual(pilots_of(begin(roster), works, (SWAP, 1, 2), 4), ([-7, 1, 2], [0, 1, 1, 2]))
        self.assertEqual(pilots_of(begin(roster), works, (SWAP, 1, 4), 4), ([-7, 1, 1], [0, 1, 1, 2]))
        self.assertEqual(pilots_of(begin(roster), works, (SWAP, 4, 1), 4), ([-7, 1, 1], [0, 1, 1, 2]))
        self.assertEqual(pilots_of(begin(roster), works, (SWAP, 2, 1), 4), ([-7, 1, 2], [0, 1, 1, 2]))
        self.assertEqual(pilots_of(begin(roster), works, (SWAP, 2, 4), 4), ([-7, 2, 1], [0, 1, 1, 2]))

    def test_the_first_entry_told_is_the_first_looked_at(self):
        roster = free_rules() + crew("AB", "leave A 2020-03-03 00:00 to 2020-03-04 00:00 ;"
                                           "leave B 2020-03-02 00:00 to 2020-03-03 00:00 ;")
        works = [(GIVE, 0, at(0, 10)), (GIVE, 1, at(DAY, DAY + 10))]
        self.assertEqual(last(*begin(roster), *works, (SWAP, 1, 2)), [-7, 1, 2])
        self.assertEqual(last(*begin(roster), *works, (SWAP, 2, 1)), [-7, 2, 2])

    def test_the_numbers_are_the_entries_not_their_places(self):
        roster = free_rules() + crew("AB", "leave A 2020-03-03 00:00 to 2020-03-04 00:00 ;")
        works = [(GIVE, 0, at(500, 600)), (CANCEL, 1), (GIVE, 0, at(0, 10)), (GIVE, 1, at(DAY, DAY + 10))]
        self.assertEqual(talk(*begin(roster), *works, (SWAP, 1, 2), (SWAP, 2, 3))[6:], [[-4], [-7, 3, 2]])


class Hand(unittest.TestCase):
    WORKS = [(GIVE, 0, at(0, 10)), (GIVE, 1, at(5, 20)), (GIVE, 0, at(50, 60))]

    def test_the_pilot_changes(self):
        self.assertEqual(pilots_of(THREE, self.WORKS, (HAND, 1, 2), 3), ([0], [2, 1, 0]))
        self.assertEqual(pilots_of(THREE, self.WORKS, (HAND, 3, 1), 3), ([0], [0, 1, 1]))
        self.assertEqual(talk(*THREE, *self.WORKS, (HAND, 1, 2), (WHY, 0, at(0, 1)), (WHY, 2, at(0, 1)))[5:],
                         [[0], [0], [0, 3]])

    def test_no_such(self):
        for call in ((HAND, 4, 0), (HAND, 0, 0), (HAND, 1, 3), (HAND, 4, 3), (HAND, 999999999, 0), (HAND, 1, 999999999)):
            self.assertEqual(pilots_of(THREE, self.WORKS, call, 3), ([-4], [0, 1, 0]))

    def test_it_is_theirs(self):
        self.assertEqual(pilots_of(THREE, self.WORKS, (HAND, 1, 0), 3), ([-5], [0, 1, 0]))
        self.assertEqual(pilots_of(THREE, self.WORKS, (HAND, 2, 1), 3), ([-5], [0, 1, 0]))

    def test_they_may_not(self):
        self.assertEqual(pilots_of(THREE, self.WORKS, (HAND, 1, 1), 3), ([-7, 3], [0, 1, 0]))
        self.assertEqual(pilots_of(THREE, self.WORKS, (HAND, 2, 0), 3), ([-7, 3], [0, 1, 0]))
        roster = free_rules(week=60) + crew("AB", "leave B 2020-03-02 00:00 to 2020-03-02 00:05 ;") + "pilot C ;"
        self.assertEqual(
            talk(*begin(roster), (GIVE, 0, at(0, 10)), (GIVE, 0, at(20, 60)), (GIVE, 1, at(70, 120)), (HAND, 1, 1),
                 (HAND, 2, 1), (HAND, 2, 2), (HAND, 1, 2))[5:], [[-7, 2], [-7, 5], [-7, 1], [-7, 1]])

    def test_the_entry_stays_in_its_own_pilots_log(self):
        # It is none of the other pilot's works, so it does not lap with itself.
        self.assertEqual(pilots_of(THREE, [(GIVE, 0, at(0, 10))], (HAND, 1, 1), 1), ([0], [1]))
        self.assertEqual(talk(*THREE, (GIVE, 0, at(0, 10)), (HAND, 1, 1), (HAND, 1, 0), (HAND, 1, 0), (LOG,))[3:],
                         [[0], [0], [-5], [0] + as_bytes(printed(entry("A", 0, 10)))])

    def test_a_full_log_is_handed_on(self):
        works = [(GIVE, 0, at(10 * index, 10 * index + 10)) for index in range(48)]
        self.assertEqual(talk(*THREE, *works, (HAND, 48, 2), (SWAP, 48, 1), (CANCEL, 1))[50:], [[0], [0], [0]])


def printed(text):
    """The text as it is printed: the ship's numbers get their places."""
    ship = "ship Gerda kind tanker long 150.00 beam 22.00 draught 8.00 high 30.00 block 0.80 gross 12000 board 4.00 ;"
    return text.replace(SHIP, ship)


class Log(unittest.TestCase):
    def test_an_empty_one(self):
        self.assertEqual(last(*THREE, (LOG,)), [0])

    def test_how_it_is_printed(self):
        told = [(GIVE, 1, at(0, 10)), (GIVE, 0, at(5, 600, "outer,basin")), (TAKE, at(0, 1))]
        self.assertEqual(as_text(last(*THREE, *told, (LOG,))[1:]),
                         printed(entry("B", 0, 10) + entry("A", 5, 600, "outer , basin") + entry("C", 0, 1)))
        self.assertEqual(
            as_text(last(*THREE, (GIVE, 1, at(0, 10)), (LOG,))[1:]),
            "by B job 2020-03-02 00:00 to 2020-03-02 00:10 legs inner ;\n"
            "ship Gerda kind tanker long 150.00 beam 22.00 draught 8.00 high 30.00 block 0.80 gross 12000 board 4.00 ;\n")

    def test_in_the_order_of_numbers(self):
        told = [(TAKE, at(90, 95)), (TAKE, at(0, 10)), (TAKE, at(50, 60)), (CANCEL, 2), (SWAP, 1, 3), (TAKE, at(20, 30)),
                (HAND, 3, 1)]
        self.assertEqual(as_text(last(*THREE, *told, (LOG,))[1:]),
                         printed(entry("C", 90, 95) + entry("B", 50, 60) + entry("B", 20, 30)))

    def test_told_loaded_told_again(self):
        loose = entry("B", 0, 10, "outer,inner").replace(" ;", ";#\n") + "\n\t" + entry("A", 5, 600) + "# no more"
        text = last(*THREE, (LOAD, loose), (LOG,))[1:]
        self.assertEqual(as_text(text), printed(entry("B", 0, 10, "outer , inner") + entry("A", 5, 600)))
        self.assertEqual(last(*THREE, (LOAD, text), (LOG,)), [0] + text)

    def test_the_longest_log_fits(self):
        name, legs = "p23456789012345", [f"l{index:02}456789012345" for index in range(8)]
        port = "port P keep 0 or 0 % ; place a ; place b ;" + "".join(
            f"leg {leg} from a to b miles 1 depth 9 wide 90 fast 9 ;" for leg in legs)
        roster = (free_rules() + f"pilot {name} ; grade g long 500 draught 30 gross 400000 ;"
                  f"licence {name} grade g 1900-01-01 to 2199-12-31 legs {' , '.join(legs)} ;")
        ship = ("ship s23456789012345 kind k23456789012345 long 500.00 beam 100.00 draught 30.00 high 100.00 block 0.95 "
                "gross 400000 board 40.00 ;")
        text = "".join(by(name, MONDAY + 10 * index, MONDAY + 10 * index + 10, " , ".join(legs), ship) for index in range(48))
        self.assertEqual(len(text), 16272)
        self.assertEqual(talk((PORT, port), (ROSTER, roster), (LOAD, text), (LOG,))[2:], [[0], [0] + as_bytes(text)])


class LogTexts(unittest.TestCase):
    def test_read(self):
        for call in (JUDGE, LOAD):
            rest = [0] if call == JUDGE else []
            for text in ("", " ", "# nothing", "\n\n", entry("A", 0, 10), entry("A", 0, 10) + entry("B", 0, 10)):
                with self.subTest(call=call, text=text):
                    self.assertEqual(last(*THREE, (call, text)), [0] + rest)

    def test_names_that_are_no_words_of_the_others(self):
        before = begin(free_rules() + crew(["by", "job", "legs"]))
        check_read(self, before, LOAD, [entry("by", 0, 10) + entry("job", 0, 10) + entry("legs", 0, 10)])

    def test_faults(self):
        first = entry("A", 0, 10)
        head = "by A job 2020-03-02 10:00 to 2020-03-02 12:00 "
        rows = [
            (2, "^A"), (2, "^job"), (1, "^?"), (2, "by^"), (3, "by ^job"), (3, "by ^D"), (3, "by ^inner"), (2, "by ^9"),
            (2, "by ^to"), (1, "by ^$"), (2, "by A^"), (2, "by A ^by"), (2, "by A ^, B"), (2, head + "^;"),
            (3, head + "legs ^A ;"), (4, head + "legs inner , ^inner ;"), (2, head + "legs inner ;\n^by"),
            (2, head + "legs inner ; ^"), (5, "by A job ^1900-01-01 10:00"),
            (5, "by A job 2020-03-02 10:00 to ^2020-03-02 10:00 legs"),
            (2, first + "^;"), (2, first + "^" + at(0, 10)), (1, first + "^?"), (3, first + "by ^X"),
            (2, first + "by B job ^2020"), (5, first + entry("B", 0, 10).replace("board 4", "board ^41")),
        ]
        for call in (JUDGE, LOAD):
            check_faults(self, THREE, call, rows)

    def test_forty_eight_and_one_more(self):
        full = "".join(entry("A", 10 * index, 10 * index + 10) for index in range(48))
        self.assertEqual(last(*THREE, (JUDGE, full)), [0, 0])
        self.assertEqual(talk(*THREE, (LOAD, full), (ENTRY, 48), (ENTRY, 49), (TAKE, at(0, 1)))[2:],
                         [[0], [0, 0, *[MONDAY + 470, MONDAY + 480] * 2, 1], [-4], [-6]])
        rows = [(6, full + "by ^A"), (6, full + "by ^B job"), (3, full + "by ^D"), (2, full + "by ^to"), (1, full + "by ^?"),
                (2, full + "by^"), (2, full + "^A"), (2, full + "^job")]
        for call in (JUDGE, LOAD):
            check_faults(self, THREE, call, rows)


class Judge(unittest.TestCase):
    def judge(self, roster, text, *more):
        return last(*begin(roster), *more, (JUDGE, text))

    def test_nothing_wrong(self):
        text = entry("A", 0, 10) + entry("B", 0, 10) + entry("A", 10, 20)
        self.assertEqual(self.judge(free_rules() + crew("AB"), text), [0, 0])
        self.assertEqual(self.judge(free_rules(), ""), [0, 0])

    def test_not_licensed(self):
        roster = free_rules() + crew("A") + "pilot B ; licence B grade any 2020-03-02 to 2020-03-02 legs inner ;"
        text = entry("B", 0, 10) + entry("B", 20, 30, "outer") + entry("A", 20, 30, "outer") + entry("B", DAY, DAY + 10)
        self.assertEqual(self.judge(roster, text), [0, 2, 1, 1, 3, 1])

    def test_each_kind(self):
        leave = "leave A 2020-03-02 00:00 to 2020-03-02 00:30 ;"
        self.assertEqual(self.judge(free_rules() + crew("A", leave), entry("A", 30, 40) + entry("A", 29, 30)), [0, 1, 1, 2])
        self.assertEqual(self.judge(free_rules() + crew("A"), entry("A", 0, 11) + entry("A", 10, 20)), [0, 1, 1, 3])
        self.assertEqual(self.judge(free_rules(duty=60, rest=5, night_rest=5) + crew("A"), entry("A", 0, 30) + entry("A", 34, 61)),
                         [0, 1, 1, 4])
        self.assertEqual(self.judge(free_rules(week=60) + crew("A"), entry("A", 0, 30) + entry("A", 100, 131)), [0, 1, 1, 5])
        nights = [entry("A", 181 + DAY * day - 1, 190 + DAY * day) for day in range(3)]
        self.assertEqual(self.judge(free_rules(nights=2) + crew("A"), "".join(nights)), [0, 1, 2, 6])

    def test_by_entries_and_of_one_by_kinds(self):
        roster = (free_rules(duty=60, week=60, nights=1, night="00:00", till="23:59")
                  + crew("AB", "leave A 2020-03-01 00:00 to 2020-03-09 00:00 ;") + "pilot C ;")
        text = entry("C", 0, 100) + entry("A", 0, 100) + entry("B", 0, 10) + entry("A", 90, 200) + entry("C", 99, 130)
        things = [(0, 1), (0, 4), (0, 5), (1, 2), (1, 4), (1, 5), (3, 2), (3, 3), (3, 4), (3, 5), (4, 1), (4, 3), (4, 4),
                  (4, 5)]
        self.assertEqual(self.judge(roster, text), [0, len(things)] + [number for thing in things for number in thing])

    def test_in_the_order_of_beginnings(self):
        roster = free_rules() + crew("AB")
        self.assertEqual(self.judge(roster, entry("A", 10, 20) + entry("A", 0, 11)), [0, 1, 0, 3])
        self.assertEqual(self.judge(roster, entry("A", 20, 30) + entry("B", 0, 99) + entry("A", 0, 40) + entry("A", 29, 31)),
                         [0, 2, 0, 3, 3, 3])

    def test_alike_ones_in_the_texts_order(self):
        roster = free_rules() + crew("A")
        self.assertEqual(self.judge(roster, entry("A", 0, 10) + entry("A", 0, 5)), [0, 1, 1, 3])
        self.assertEqual(self.judge(roster, entry("A", 0, 5) + entry("A", 0, 10) + entry("A", 0, 7)), [0, 2, 1, 3, 2, 3])

    def test_only_works_before_count(self):
        self.assertEqual(self.judge(free_rules(week=60) + crew("A"), entry("A", 0, 60) + entry("A", 60, 61)), [0, 1, 1, 5])
        self.assertEqual(self.judge(free_rules(week=60) + crew("A"), entry("A", 1, 61) + entry("A", 0, 1)), [0, 1, 0, 5])

    def test_the_kept_log_is_not_looked_at(self):
        roster = free_rules() + crew("AB")
        self.assertEqual(self.judge(roster, entry("A", 0, 10), (GIVE, 0, at(0, 10)), (GIVE, 0, at(20, 30))), [0, 0])
        self.assertEqual(talk(*begin(roster), (GIVE, 0, at(0, 10)), (JUDGE, entry("B", 0, 99)), (LOG,), (TURN,))[3:],
                         [[0, 0], [0] + as_bytes(printed(entry("A", 0, 10))), [0, 1, 0]])

    def test_before_and_behind_count(self):
        roster = free_rules(before=10, behind=20) + crew("A")
        self.assertEqual(self.judge(roster, entry("A", 0, 10) + entry("A", 40, 50)), [0, 0])
        self.assertEqual(self.judge(roster, entry("A", 0, 10) + entry("A", 39, 50)), [0, 1, 1, 3])


class Load(unittest.TestCase):
    TEXT = entry("B", 0, 10) + entry("A", 20, 30) + entry("B", 50, 60)

    def test_the_log_is_that_one(self):
        works = [(GIVE, 0, at(0, 10)), (GIVE, 2, at(0, 90))]
        self.assertEqual(
            talk(*THREE, *works, (LOAD, self.TEXT), (ENTRY, 1), (ENTRY, 2), (ENTRY, 3), (ENTRY, 4), (TURN,))[4:],
            [[0], [0, 1, *[MONDAY, MONDAY + 10] * 2, 1], [0, 0, *[MONDAY + 20, MONDAY + 30] * 2, 1],
             [0, 1, *[MONDAY + 50, MONDAY + 60] * 2, 1], [-4], [0, 2, 0, 1]])

    def test_numbers_begin_anew(self):
        works = [(TAKE, at(index * 10, index * 10 + 10)) for index in range(5)]
        self.assertEqual(talk(*THREE, *works, (LOAD, self.TEXT), (TAKE, at(100, 110)), (CANCEL, 4), (TAKE, at(100, 110)))[7:],
                         [[0], [0, 4, 2], [0], [0, 5, 2]])
        self.assertEqual(talk(*THREE, *works, (LOAD, ""), (LOG,), (ENTRY, 1), (TAKE, at(100, 110)))[7:],
                         [[0], [0], [-4], [0, 1, 0]])
        self.assertEqual(talk(*THREE, (LOAD, self.TEXT), (CANCEL, 3), (LOAD, self.TEXT), (GIVE, 0, at(90, 95)))[2:],
                         [[0], [0], [0], [0, 4]])

    def test_what_is_wrong_is_not_loaded(self):
        roster = free_rules(week=60) + crew("AB", "leave B 2020-03-02 00:00 to 2020-03-02 00:05 ;") + "pilot C ;"
        good = entry("A", 0, 10)
        rows = [
            (good + entry("C", 0, 10), [-7, 1, 1]), (good + entry("B", 4, 100), [-7, 1, 2]),
            (good + entry("A", 9, 20), [-7, 1, 3]), (entry("A", 9, 20) + good, [-7, 0, 3]),
            (good + entry("B", 100, 161), [-7, 1, 5]), (entry("C", 0, 10) + entry("B", 0, 1), [-7, 0, 1]),
            (good + entry("A", 100, 150) + entry("A", 20, 21) + entry("C", 0, 100), [-7, 1, 5])]
        for text, expected in rows:
            with self.subTest(text=text):
                given = talk(*begin(roster), (GIVE, 0, at(200, 210)), (CANCEL, 1), (GIVE, 0, at(0, 10)), (LOAD, text), (LOG,),
                             (GIVE, 0, at(300, 301)), (JUDGE, text))
                self.assertEqual(given[5:8], [expected, [0] + as_bytes(printed(good)), [0, 3]])
                self.assertEqual(given[8][2:4], expected[1:])
                self.assertGreater(given[8][1], 0)

    def test_the_kept_log_is_not_looked_at(self):
        self.assertEqual(talk(*THREE, (GIVE, 0, at(0, 100)), (LOAD, entry("A", 50, 60)), (WHY, 0, at(0, 50)))[3:], [[0], [0]])


class Refused(unittest.TestCase):
    def test_nothing_changes(self):
        works = [(GIVE, 2, at(0, 10)), (GIVE, 0, at(0, 20)), (GIVE, 1, at(0, 30)), (GIVE, 1, at(100, 130))]
        long = entry("A", 0, 10) + " " * 16384
        refused = [
            (CANCEL, 0), (CANCEL, 5), (SWAP, 1, 5), (SWAP, 5, 1), (SWAP, 3, 4), (SWAP, 1, 1), (SWAP, 1, 4), (SWAP, 4, 1),
            (HAND, 1, 3), (HAND, 5, 0), (HAND, 1, 2), (HAND, 1, 0), (WORK, 0, 2, 1), (WORK, 9, 1, 2), (DUTY, 9, 0),
            (DUTY, 0, 0), (NIGHTS, 9, 0), (JUDGE, "by"), (JUDGE, long), (LEAST, ""), (LEAST, " " * 4097),
            (LEAST, at(0, 9) + at(1, 9) + at(2, 9) + at(3, 9)), (LOAD, "by"), (LOAD, long),
            (LOAD, entry("A", 0, 10) + entry("A", 0, 10)), (LOAD, entry("A", 0, 10) + "by A")]
        seen = [(TEXT,), (TURN,), (LOG,), (ENTRY, 1), (ENTRY, 2), (ENTRY, 3), (ENTRY, 4), (CHOOSE, at(5, 6)),
                (TAKE, at(500, 510))]
        fresh = talk(*THREE, *works, *seen)[-9:]
        for call in refused:
            with self.subTest(call=call):
                given = talk(*THREE, *works, call, *seen)
                self.assertLess(given[6][0], 0)
                self.assertEqual(given[-9:], fresh)


if __name__ == "__main__":
    unittest.main()
