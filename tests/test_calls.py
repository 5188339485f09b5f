"""Lists of calls: how they are read, how answers stand, refusals and their order."""

import unittest

from pilothall.pilots import NoSuchCall, answers
from tests.helper import (
    CANCEL, CHOOSE, DUTY, ENTRY, GIVE, HAND, HARBOUR, JUDGE, LEAST, LOAD, LOG, NAME, NIGHTS, PORT, ROSTER, SHIP, SWAP, TAKE,
    TEXT, TURN, WHY, WORK, as_bytes, crew, flat, free_rules, job, last, rules, talk,
)

JOB = job("2020-03-02 10:00", "2020-03-02 12:00")
BEFORE = [(PORT, HARBOUR), (ROSTER, free_rules() + crew("AB"))]
ALL = [
    (PORT, HARBOUR), (ROSTER, free_rules() + crew("AB")), (TEXT,), (TURN,), (NAME, 1), (WHY, 0, JOB), (CHOOSE, JOB),
    (TAKE, JOB), (GIVE, 1, JOB), (ENTRY, 1), (SWAP, 1, 2), (CANCEL, 1), (HAND, 2, 1), (WORK, 1, 0, 999999999),
    (DUTY, 1, 999999999), (NIGHTS, 1, 43890), (JUDGE, "by A " + JOB + "by A " + JOB), (LEAST, JOB), (LOG,),
    (LOAD, "by A " + JOB)]


def padded(text, length):
    return text + " " * (length - len(text))


class Lists(unittest.TestCase):
    def test_how_answers_stand(self):
        roster = rules() + "pilot Bo ;"
        told = [1, len(HARBOUR)] + as_bytes(HARBOUR) + [2, len(roster)] + as_bytes(roster) + [4, 5, 0, 5, 1, 10, 1]
        self.assertEqual(answers(told), [1, 0, 1, 0, 2, 0, 0, 3, 0, 66, 111, 1, -4, 1, -4])

    def test_a_faults_kind_and_place_are_answered(self):
        self.assertEqual(answers([1, 4] + as_bytes("port")), [3, -2, 2, 4])
        self.assertEqual(answers([1, 0]), [3, -2, 2, 0])

    def test_each_call_alone(self):
        self.assertEqual(answers([3]), [1, -3])
        self.assertEqual(answers([6, 0, 0]), [1, -3])
        self.assertEqual(answers([1, len(HARBOUR)] + as_bytes(HARBOUR)), [1, 0])

    def test_eighty_calls(self):
        told = [BEFORE[0], BEFORE[1]] + [(TURN,)] * 78
        self.assertEqual(talk(*told), [[0], [0]] + [[0, 0, 1]] * 78)
        self.assertEqual(talk(*([(NAME, 0)] * 80)), [[-3]] * 80)

    def test_numbers_of_texts_are_no_calls(self):
        told = flat([(PORT, [1, 2, 3]), (PORT, [9, 10, 10]), (TURN,)])
        self.assertEqual(answers(told), [3, -2, 1, 0, 3, -2, 2, 3, 1, -3])

    def test_a_call_that_is_not_there(self):
        for number in (0, 21, 999):
            self.assertRaises(NoSuchCall, answers, [number])

    def test_what_is_handed_in_stays(self):
        told = flat(ALL)
        copy = list(told)
        answers(told)
        self.assertEqual(told, copy)

    def test_nothing_is_kept(self):
        told = flat(ALL)
        first = answers(told)
        self.assertEqual(answers(told), first)
        self.assertEqual(answers(flat([(TURN,)])), [1, -3])
        self.assertEqual(answers(told), first)

    def test_whole_numbers_alone(self):
        given = answers(flat(ALL))
        self.assertIs(type(given), list)
        self.assertEqual({type(number) for number in given}, {int})

    def test_each_call_answers(self):
        begin = 43890 * 1440 + 600
        given = talk(*ALL)
        self.assertEqual(given[0:2] + given[3:18] + given[19:], [
            [0], [0], [0, 0, 1], [0, 66], [0], [0, 0], [0, 1, 0], [0, 2], [0, 0, begin, begin + 120, begin, begin + 120, 1],
            [0], [0], [0], [0, 120], [0, begin, begin + 120, 0, 1, begin + 120], [0, 0], [0, 1, 1, 3], [0, 1, 0], [0]])
        self.assertEqual(bytes(given[18]).decode()[1:26], "by B job 2020-03-02 10:00")


class Lengths(unittest.TestCase):
    def test_greatest_lengths(self):
        rows = [
            ([], (PORT,), HARBOUR, 4096), (BEFORE[:1], (ROSTER,), rules(), 8192), (BEFORE, (WHY, 0), JOB, 1024),
            (BEFORE, (CHOOSE,), JOB, 1024), (BEFORE, (TAKE,), JOB, 1024), (BEFORE, (GIVE, 0), JOB, 1024),
            (BEFORE, (JUDGE,), "by A " + JOB, 16384), (BEFORE, (LEAST,), JOB, 4096), (BEFORE, (LOAD,), "by A " + JOB, 16384)]
        for before, head, text, most in rows:
            with self.subTest(head=head):
                self.assertEqual(last(*before, (*head, padded(text, most)))[0], 0)
                self.assertEqual(last(*before, (*head, padded(text, most + 1))), [-1])
                self.assertEqual(last(*before, (*head, "?" * (most + 1))), [-1])
                self.assertEqual(last(*before, (*head, "?" * most)), [-2, 1, 0])
                self.assertEqual(last(*before, (*head, " " * 17000)), [-1])


class Order(unittest.TestCase):
    def test_too_long_before_missing(self):
        self.assertEqual(
            talk((ROSTER, " " * 8193), (WHY, 0, " " * 1025), (CHOOSE, " " * 1025), (TAKE, " " * 1025),
                 (GIVE, 0, " " * 1025), (LEAST, " " * 4097), (WORK, 0, 1, 0)), [[-1]] * 7)
        self.assertEqual(talk((JUDGE, " " * 16385)) + talk((LOAD, " " * 16385)), [[-1]] * 2)
        self.assertEqual(talk((PORT, HARBOUR), (JUDGE, " " * 16385)) + talk((PORT, HARBOUR), (LOAD, " " * 16385)),
                         [[0], [-1]] * 2)

    def test_missing_before_faulty(self):
        told = [(TEXT,), (TURN,), (NAME, 99), (WHY, 99, "?"), (CHOOSE, "?"), (TAKE, "?"), (GIVE, 99, "?"), (ENTRY, 99),
                (CANCEL, 99), (SWAP, 99, 99), (HAND, 99, 99), (WORK, 99, 0, 0), (DUTY, 99, 99), (NIGHTS, 99, 99),
                (JUDGE, "?"), (LEAST, "?"), (LOG,), (LOAD, "?"), (JUDGE, ""), (LOAD, "")]
        self.assertEqual(talk((ROSTER, "?"), *told), [[-3]] * 21)
        self.assertEqual(talk((PORT, HARBOUR), *told)[1:], [[-3]] * 20)

    def test_a_port_is_never_missing(self):
        self.assertEqual(talk((PORT, "?"), (PORT, HARBOUR)), [[-2, 1, 0], [0]])

    def test_a_refused_port_is_none(self):
        self.assertEqual(talk((PORT, "?"), (ROSTER, rules())), [[-2, 1, 0], [-3]])
        self.assertEqual(talk((PORT, HARBOUR), (ROSTER, "?"), (TURN,)), [[0], [-2, 1, 0], [-3]])

    def test_faulty_before_no_such_pilot(self):
        self.assertEqual(talk(*BEFORE, (WHY, 99, "?"), (GIVE, 99, "?"), (WHY, 2, JOB), (GIVE, 2, JOB))[2:],
                         [[-2, 1, 0], [-2, 1, 0], [-4], [-4]])

    def test_no_such_pilot_before_a_full_log_before_the_others(self):
        told = [(GIVE, 0, job(f"2020-03-02 {index // 60:02}:{index % 60:02}",
                              f"2020-03-02 {(index + 1) // 60:02}:{(index + 1) % 60:02}")) for index in range(48)]
        full = [(GIVE, 2, JOB), (GIVE, 0, told[0][2]), (GIVE, 1, JOB), (TAKE, JOB), (TAKE, "job")]
        self.assertEqual(talk(*BEFORE, *told, *full)[50:], [[-4], [-6], [-6], [-6], [-2, 2, 3]])

    def test_faulty_before_what_is_wrong(self):
        wrong = "by A " + JOB + "by A " + JOB
        self.assertEqual(talk(*BEFORE, (LOAD, wrong + "?"), (LOAD, wrong), (LEAST, JOB * 3 + ";"), (LEAST, JOB * 3))[2:],
                         [[-2, 1, len(wrong)], [-7, 1, 3], [-2, 2, 3 * len(JOB)], [-5]])

    def test_no_such_before_one_pilots_before_may_not(self):
        works = [(GIVE, 0, JOB), (GIVE, 1, JOB)]
        told = [(SWAP, 1, 3), (SWAP, 3, 3), (SWAP, 1, 1), (HAND, 3, 0), (HAND, 1, 2), (HAND, 1, 0), (HAND, 1, 1)]
        self.assertEqual(talk(*BEFORE, *works, *told)[4:], [[-4], [-4], [-5], [-4], [-4], [-5], [-7, 3]])

    def test_no_such_pilot_before_no_such_work(self):
        self.assertEqual(talk(*BEFORE, (DUTY, 2, 0), (DUTY, 1, 0))[2:], [[-4], [-5]])

    def test_the_text_stays_as_it_is_told(self):
        text = HARBOUR + "gauge \xe4"
        self.assertEqual(last((PORT, text)), [-2, 1, len(HARBOUR) + 6])
        self.assertEqual(last(*BEFORE, (CHOOSE, SHIP)), [-2, 2, 0])


if __name__ == "__main__":
    unittest.main()
