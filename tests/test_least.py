"""The fewest pilots for some jobs together, and jobs' texts."""

import itertools
import random
import time
import unittest

from tests.helper import (
    CANCEL, GIVE, HARBOUR, LEAST, LOG, PORT, ROSTER, SHIP, TURN, WHY, check_faults, crew, free_rules, last, minute, moment,
    rules, span, talk,
)

MONDAY = minute("2020-03-02 00:00")
DAY = 1440
NAMES = [f"p{index}" for index in range(24)]


def begin(roster):
    return [(PORT, HARBOUR), (ROSTER, roster)]


def at(first, behind, legs="inner"):
    return span(MONDAY + first, MONDAY + behind, legs)


def row(count):
    """Jobs one behind another."""
    return "".join(at(100 * index, 100 * index + 100) for index in range(count))


def leave(name, first, behind):
    return f"leave {name} {moment(MONDAY + first)} to {moment(MONDAY + behind)} ;"


def licences(told):
    """Pilots in order, and the legs that each has a licence for."""
    text = "grade any long 500 draught 30 gross 400000 ;"
    for index, legs in enumerate(told):
        text += f"pilot p{index} ;"
        if legs:
            text += f"licence p{index} grade any 1900-01-01 to 2199-12-31 legs {legs} ;"
    return text


THREE = begin(free_rules() + crew("ABC"))


class JobsTexts(unittest.TestCase):
    def test_one_to_six(self):
        for count in range(1, 7):
            self.assertEqual(last(*THREE, (LEAST, row(count))), [0, 1] + [0] * count)
        self.assertEqual(last(*THREE, (LEAST, "# jobs\n" + row(2) + "\n# no more")), [0, 1, 0, 0])

    def test_none(self):
        check_faults(self, THREE, LEAST, [(2, "^"), (2, "   ^"), (2, "# none\n^"), (1, "^?")])

    def test_seven(self):
        six = row(6)
        check_faults(self, THREE, LEAST, [
            (6, six + "^job"), (6, six + "^job ?"), (6, six + "^" + at(600, 700)), (2, six + "^by"), (2, six + "^;"),
            (1, six + "^?"), (2, six + "^ship"), (1, six + "^a234567890123456")])

    def test_faults(self):
        one = at(0, 10)
        check_faults(self, THREE, LEAST, [
            (2, "^by A " + one), (2, one + "^;"), (2, one + "^,"), (1, one + "^?"), (2, one + "job^"),
            (5, one + "job ^1900-01-01"), (3, one + "job 2020-03-02 10:00 to 2020-03-02 11:00 legs ^A"),
            (2, one + "job 2020-03-02 10:00 to 2020-03-02 11:00 legs inner ; ^job"),
            (5, one + at(20, 30).replace("board 4", "board ^40.01")), (2, one + "^" + SHIP)])


class Fewest(unittest.TestCase):
    def test_one_pilot_for_all(self):
        self.assertEqual(last(*THREE, (LEAST, row(3))), [0, 1, 0, 0, 0])

    def test_jobs_that_lap(self):
        self.assertEqual(last(*THREE, (LEAST, at(0, 10) + at(5, 15))), [0, 2, 0, 1])
        self.assertEqual(last(*THREE, (LEAST, at(0, 10) + at(5, 15) + at(9, 20))), [0, 3, 0, 1, 2])
        self.assertEqual(last(*THREE, (LEAST, at(0, 10) + at(5, 15) + at(10, 20))), [0, 2, 0, 1, 0])
        self.assertEqual(last(*THREE, (LEAST, at(0, 10) + at(0, 10) + at(10, 20) + at(10, 20))), [0, 2, 0, 1, 0, 1])

    def test_they_cant_be_done(self):
        self.assertEqual(last(*THREE, (LEAST, at(0, 10) * 4)), [-5])
        self.assertEqual(last(*THREE, (LEAST, at(0, 10) * 3)), [0, 3, 0, 1, 2])
        self.assertEqual(last(*begin(free_rules()), (LEAST, at(0, 10))), [-5])
        self.assertEqual(last(*begin(free_rules() + "pilot A ; pilot B ;"), (LEAST, at(0, 10))), [-5])
        self.assertEqual(last(*begin(free_rules(week=60) + crew("AB")), (LEAST, at(0, 61))), [-5])

    def test_fewer_pilots_before_earlier_in_turn(self):
        before = begin(free_rules() + licences(["inner", "outer", "inner , outer"]))
        jobs = at(0, 10) + at(20, 30, "outer")
        self.assertEqual(last(*before, (LEAST, jobs)), [0, 1, 2, 2])
        self.assertEqual(last(*before, (LEAST, at(0, 10) + at(5, 30, "outer"))), [0, 2, 0, 1])
        before = begin(free_rules() + licences(["inner", "inner , outer", "inner , basin"]))
        self.assertEqual(last(*before, (LEAST, at(0, 10) + at(20, 30, "outer") + at(40, 50, "basin"))), [0, 2, 1, 1, 2])
        self.assertEqual(last(*before, (LEAST, at(0, 10) + at(5, 30, "outer") + at(40, 50, "basin"))), [0, 2, 2, 1, 2])

    def test_the_first_jobs_pilot_then_the_seconds(self):
        before = begin(free_rules(week=100) + crew("ABCD"))
        self.assertEqual(last(*before, (LEAST, at(0, 50) + at(100, 160) + at(200, 240))), [0, 2, 0, 1, 0])
        self.assertEqual(last(*before, (LEAST, at(0, 50) + at(100, 150) + at(200, 240))), [0, 2, 0, 0, 1])
        self.assertEqual(last(*before, (LEAST, at(0, 60) + at(100, 150) + at(200, 240))), [0, 2, 0, 1, 0])

    def test_the_first_jobs_pilot_binds_the_others(self):
        # p0 can only take the first job, and then the others go to one: p1 has no licence for basin.
        before = begin(free_rules() + licences(["inner", "inner , outer", "inner , outer , basin"]))
        jobs = at(0, 10) + at(5, 15, "outer") + at(20, 30, "basin")
        self.assertEqual(last(*before, (LEAST, jobs)), [0, 2, 0, 2, 2])

    def test_the_first_in_turn_who_has_such_a_way(self):
        # With p0 for the first job three pilots would be needed.
        before = begin(free_rules() + licences(["inner", "inner , outer", "basin"]))
        self.assertEqual(last(*before, (LEAST, at(0, 10) + at(20, 30, "outer") + at(40, 50, "basin"))), [0, 2, 1, 1, 2])

    def test_turns_count_not_numbers(self):
        told = [(GIVE, 0, at(-500, -400)), (GIVE, 1, at(-300, -200))]
        self.assertEqual(talk(*THREE, *told, (TURN,), (LEAST, row(2)), (LEAST, at(0, 10) * 3))[4:],
                         [[0, 2, 0, 1], [0, 1, 2, 2], [0, 3, 2, 0, 1]])

    def test_works_of_the_log_count(self):
        told = [(GIVE, 0, at(50, 60)), (GIVE, 1, at(150, 160)), (GIVE, 2, at(250, 260))]
        self.assertEqual(last(*THREE, *told, (LEAST, at(0, 55))), [0, 1, 1])
        self.assertEqual(last(*THREE, *told, (LEAST, at(0, 55) + at(155, 165))), [0, 1, 2, 2])
        self.assertEqual(last(*THREE, *told, (LEAST, at(0, 55) + at(155, 165) + at(255, 265))), [0, 2, 1, 0, 0])
        self.assertEqual(last(*THREE, *told, (LEAST, at(0, 55) + at(155, 165) + at(255, 265) + at(254, 256))), [0, 2, 1, 0, 0, 1])
        self.assertEqual(last(*THREE, *told, (LEAST, at(0, 300))), [-5])
        self.assertEqual(last(*THREE, *told, (CANCEL, 2), (LEAST, at(0, 300))), [0, 1, 1])

    def test_nothing_is_entered(self):
        self.assertEqual(talk(*THREE, (LEAST, row(3)), (LOG,), (LEAST, row(3)), (TURN,))[2:],
                         [[0, 1, 0, 0, 0], [0], [0, 1, 0, 0, 0], [0, 0, 1, 2]])

    def test_each_rule_counts(self):
        two = at(0, 100) + at(200, 300)
        self.assertEqual(last(*begin(free_rules(rest=100, night_rest=100, duty=100) + crew("AB")), (LEAST, two)), [0, 1, 0, 0])
        self.assertEqual(last(*begin(free_rules(rest=101, night_rest=101, duty=100) + crew("AB")), (LEAST, two)), [0, 2, 0, 1])
        self.assertEqual(last(*begin(free_rules(week=199) + crew("AB")), (LEAST, two)), [0, 2, 0, 1])
        self.assertEqual(last(*begin(free_rules() + crew("AB", leave("A", 250, 260))), (LEAST, two)), [0, 1, 1, 1])
        nights = "".join(at(day * DAY + 170, day * DAY + 190) for day in range(3))
        self.assertEqual(last(*begin(free_rules(nights=2) + crew("AB")), (LEAST, nights)), [0, 2, 0, 0, 1])
        self.assertEqual(last(*begin(free_rules(nights=3) + crew("AB")), (LEAST, nights)), [0, 1, 0, 0, 0])

    def test_jobs_in_any_order_of_time(self):
        self.assertEqual(last(*THREE, (LEAST, at(500, 600) + at(0, 10) + at(300, 400))), [0, 1, 0, 0, 0])
        before = begin(free_rules(week=100) + crew("AB"))
        self.assertEqual(last(*before, (LEAST, at(500, 560) + at(0, 50) + at(300, 340))), [0, 2, 0, 1, 0])

    def test_leaves(self):
        more = leave("A", 5, 6) + leave("B", 105, 106) + leave("C", 205, 206)
        before = begin(free_rules() + crew("ABC", more))
        self.assertEqual(last(*before, (LEAST, row(3))), [0, 2, 1, 0, 0])
        self.assertEqual(last(*before, (LEAST, row(2))), [0, 1, 2, 2])


class Many(unittest.TestCase):
    def timed(self, calls):
        start = time.perf_counter()
        answer = last(*calls)
        self.assertLess(time.perf_counter() - start, 10)
        return answer

    def test_six_jobs_and_24_pilots_who_may_take_any(self):
        before = begin(free_rules() + crew(NAMES))
        self.assertEqual(self.timed([*before, (LEAST, row(6))]), [0, 1] + [0] * 6)
        self.assertEqual(self.timed([*before, (LEAST, at(0, 10) * 6)]), [0, 6, 0, 1, 2, 3, 4, 5])
        before = begin(free_rules(week=200) + crew(NAMES))
        self.assertEqual(self.timed([*before, (LEAST, row(6))]), [0, 3, 0, 0, 1, 1, 2, 2])

    def test_the_last_in_turn_does_all(self):
        more = "".join(leave(name, 100 * (index % 6) + 5, 100 * (index % 6) + 6) for index, name in enumerate(NAMES[:23]))
        before = begin(free_rules() + crew(NAMES, more))
        self.assertEqual(self.timed([*before, (LEAST, row(6))]), [0, 1] + [23] * 6)

    def test_with_a_full_log(self):
        before = begin(free_rules() + crew(NAMES))
        works = [(GIVE, index % 24, at(1000 + 10 * index, 1010 + 10 * index)) for index in range(48)]
        self.assertEqual(self.timed([*before, *works, (LEAST, row(6))]), [0, 1] + [0] * 6)
        works = [(GIVE, 0, at(1000 + 10 * index, 1010 + 10 * index)) for index in range(48)]
        self.assertEqual(self.timed([*before, *works, (LEAST, row(6))]), [0, 1] + [1] * 6)

    def test_twenty_four_who_cant(self):
        before = begin(free_rules() + crew(NAMES))
        works = [(GIVE, index, at(0, 10)) for index in range(24)]
        self.assertEqual(self.timed([*before, *works, (LEAST, row(6))]), [-5])
        self.assertEqual(self.timed([*before, *works[:23], (LEAST, row(6))]), [0, 1] + [23] * 6)


class BesideAllWays(unittest.TestCase):
    """Licences, leaves and a week's minutes decide alone here, so that all ways can be gone through shortly."""

    def ways(self, legs, jobs, week, taken):
        """All ways: a pilot for each job; a job is its place in time, its length and its leg."""
        for way in itertools.product(range(len(legs)), repeat=len(jobs)):
            if all(job[2] in legs[pilot] for pilot, job in zip(way, jobs)):
                given = [[job for taker, job in zip(way, jobs) if taker == pilot] for pilot in range(len(legs))]
                apart = all(len({job[0] for job in own}) == len(own) for own in given)
                if apart and all(sum(job[1] for job in own) + taken[pilot] <= week for pilot, own in enumerate(given) if own):
                    yield way

    def test_many(self):
        chance = random.Random(7)
        seen = {}
        for trial in range(150):
            legs = [chance.sample(["inner", "outer", "basin"], chance.randrange(1, 4)) for pilot in range(chance.randrange(1, 5))]
            jobs = [(chance.randrange(0, 4), chance.choice([20, 30, 40]), chance.choice(["inner", "outer", "basin"]))
                    for index in range(chance.randrange(1, 7))]
            week = chance.choice([60, 80, 120])
            taken = [chance.choice([0, 0, 10, 20]) for pilot in legs]
            before = begin(free_rules(week=week) + licences([" , ".join(own) for own in legs]))
            works = [(GIVE, pilot, at(1000, 1000 + minutes, legs[pilot][0])) for pilot, minutes in enumerate(taken) if minutes]
            text = "".join(at(100 * job[0], 100 * job[0] + job[1], job[2]) for job in jobs)
            turn = sorted(range(len(legs)), key=lambda pilot: taken[pilot])
            ways = [(len(set(way)), [turn.index(pilot) for pilot in way]) for way in self.ways(legs, jobs, week, taken)]
            expected = [0, min(ways)[0]] + [turn[place] for place in min(ways)[1]] if ways else [-5]
            self.assertEqual(last(*before, *works, (LEAST, text)), expected, (legs, jobs, week, taken))
            seen[expected[1] if ways else 0] = True
        self.assertEqual(sorted(seen)[:4], [0, 1, 2, 3])


class Refusals(unittest.TestCase):
    def test_their_order(self):
        long = at(0, 10) + " " * 4096
        self.assertEqual(talk((LEAST, long), (LEAST, "?"), (PORT, HARBOUR), (LEAST, long), (LEAST, at(0, 10))),
                         [[-1], [-3], [0], [-1], [-3]])
        self.assertEqual(talk(*begin(rules()), (LEAST, at(0, 10) + "?"), (LEAST, at(0, 10)))[2:],
                         [[-2, 1, len(at(0, 10))], [-5]])

    def test_who_does_one_job_may_take_it(self):
        told = [(GIVE, 0, at(0, 100)), (GIVE, 2, at(300, 310))]
        for text in (at(50, 60), at(100, 110), at(305, 320), at(0, 400)):
            pilot = last(*THREE, *told, (LEAST, text))[2]
            self.assertEqual(last(*THREE, *told, (WHY, pilot, text)), [0])


if __name__ == "__main__":
    unittest.main()
