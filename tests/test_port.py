"""A port's text: what it may hold, its bounds, its faults."""

import unittest

from tests.helper import HARBOUR, PORT, check_faults, check_read, last

HEAD = "port P keep 0.50 or 10 % ;\n"
TWO = HEAD + "place a ; place b ; gauge g ; stream s ;\n"
LEG = TWO + "leg L from a to b miles 1 depth 10 wide 100 fast 10 "
NO_NAMES = ("port keep or gauge stream place leg from to miles depth late ratio plus wide fast under within confined "
            "meet oneway apart day curve light closed ship kind long beam draught high block gross board plan of at "
            "wait").split()


def many(word, count, tail=" ;\n"):
    return "".join(f"{word} n{index}{tail}" for index in range(count))


class Read(unittest.TestCase):
    def test_ports_that_are_right(self):
        check_read(self, [], PORT, [
            HEAD,
            HARBOUR,
            TWO,
            LEG + ";",
            LEG + "under 20 stream s within 1.25 confined oneway apart 30 day ;",
            LEG + "under 20.5 stream s within 2 confined meet 30 apart 30 day ;",
            LEG + "confined ; gauge later ;",
            LEG + "day ;",
            LEG + "apart 0 ;",
            LEG + "meet 1 day ;",
            TWO + "place c depth -1.5 gauge g late - 20 ratio 90.5 % plus -0.20 ;",
            TWO + "place c depth 4 gauge g ratio 100 % ;",
            TWO + "place c depth 4 gauge g plus 1 ;",
            TWO + "leg a from a to b miles 1 depth -2 gauge g late 5 wide 100 fast 10 ; gauge a ; stream a ;",
            HEAD + "place rules ; place legs ; place job ; place pilot ; place Port ; place by ;",
        ])

    def test_a_text_of_none(self):
        for text in ("", "   ", "# port", "\n\n"):
            self.assertEqual(last((PORT, text)), [-2, 2, len(text)])


class Names(unittest.TestCase):
    def test_words_that_are_no_names(self):
        for word in NO_NAMES:
            check_faults(self, [], PORT, [(2, HEAD + "place ^" + word + " ;"), (2, "port ^" + word + " keep 0 or 0 % ;")])

    def test_told_before_and_of_that_sort(self):
        check_faults(self, [], PORT, [
            (3, HEAD + "place a ; leg L from a to ^b miles 1 depth 1 wide 1 fast 1 ;"),
            (3, HEAD + "place a ; leg L from ^b to a miles 1 depth 1 wide 1 fast 1 ;"),
            (3, TWO + "leg L from a to ^g miles 1 depth 1 wide 1 fast 1 ;"),
            (3, TWO + "place c depth 1 gauge ^s ;"),
            (3, TWO + "place c depth 1 gauge ^h ; gauge h ;"),
            (3, LEG + "stream ^g within 1 ;"),
            (3, HEAD + "place a ; leg L from a to ^P miles 1 depth 1 wide 1 fast 1 ;"),
            (2, TWO + "leg L from a to ^from miles 1 depth 1 wide 1 fast 1 ;"),
            (2, TWO + "leg L from a to ^1 miles 1 depth 1 wide 1 fast 1 ;"),
            (2, TWO + "place c depth 1 gauge ^late 1 ;"),
        ])

    def test_none_twice_in_a_sort(self):
        check_faults(self, [], PORT, [
            (4, TWO + "place ^a ;"), (4, TWO + "gauge ^g ;"), (4, TWO + "stream ^s ;"),
            (4, LEG + "; leg ^L from b to a miles 1 depth 1 wide 1 fast 1 ;"),
        ])
        check_read(self, [], PORT, [TWO + "gauge a ; gauge s ; stream g ; place A ; place g ;"])

    def test_greatest_counts(self):
        legs = "".join(f"leg n{index} from a to b miles 1 depth 1 wide 1 fast 1 ;" for index in range(32))
        check_read(self, [], PORT, [
            HEAD + many("gauge", 8) + many("stream", 8) + many("place", 24), TWO + legs])
        check_faults(self, [], PORT, [
            (6, HEAD + many("gauge", 8) + "gauge ^n8 ;"),
            (4, HEAD + many("gauge", 8) + "gauge ^n7 ;"),
            (2, HEAD + many("gauge", 8) + "gauge ^day ;"),
            (6, HEAD + many("stream", 8) + "stream ^n8 ;"),
            (6, HEAD + many("place", 24) + "place ^n24 ;"),
            (4, HEAD + many("place", 24) + "place ^n0 ;"),
            (6, TWO + legs + "leg ^n32 from"),
            (4, TWO + legs + "leg ^n31 from"),
        ])


class Bounds(unittest.TestCase):
    def test_both_sides_of_each(self):
        places = {
            "port P keep {} or 10 % ;": ("0", "10.00", "10", "10.01", "0.001", "11"),
            "port P keep 1 or {} % ;": ("0", "100", "100", "101", "1.0", "999999999"),
            LEG.replace("miles 1", "miles {}") + ";": ("0.01", "99.99", "99.9", "100", "0", "0.001"),
            LEG.replace("wide 100", "wide {}") + ";": ("1", "5000.00", "1.00", "0.99", "5000.01", "3.123"),
            LEG.replace("fast 10", "fast {}") + ";": ("1.0", "30.0", "30", "0.9", "30.1", "5.00"),
            LEG + "under {} ;": ("1", "100", "100.00", "0.99", "100.01", "50.000"),
            LEG + "stream s within {} ;": ("0.01", "20", "20.00", "0", "20.01", "1.001"),
            LEG + "meet {} ;": ("1", "200", "200.00", "0.99", "200.01", "20.000"),
            LEG + "apart {} ;": ("0", "600", "30", "601", "999999999", "30.0"),
            TWO + "place c depth 1 gauge g ratio {} % ;": ("0.1", "300.0", "300", "0", "300.1", "1.00"),
        }
        for form, values in places.items():
            check_read(self, [], PORT, [form.replace("{}", value) for value in values[:3]])
            check_faults(self, [], PORT, [(5, form.replace("{}", "^" + value)) for value in values[3:]])

    def test_with_a_minus_before(self):
        forms = {
            TWO + "place c depth {} ;": ("-10.00", "100.00", "-0", "-10.01", "100.01", "-1.000", "1.000"),
            TWO + "place c depth 1 gauge g late {} ;": ("-720", "720", "- 0", "-721", "721", "- 5.0", "5.0"),
            TWO + "place c depth 1 gauge g plus {} ;": ("-10", "10.00", "- 1", "-10.01", "10.01", "-0.001", "0.001"),
            LEG.replace("depth 10", "depth {}") + ";": ("-10", "100", "- 9.99", "- 10.01", "100.1", "- 1.0000", "0.000"),
        }
        for form, values in forms.items():
            check_read(self, [], PORT, [form.replace("{}", value) for value in values[:3]])
            check_faults(self, [], PORT, [(5, form.replace("{}", "^" + value)) for value in values[3:]])

    def test_a_minus_where_none_is_told(self):
        check_faults(self, [], PORT, [
            (2, "port P keep ^-1 or 10 % ;"), (2, LEG + "under ^-5 ;"), (2, LEG + "apart ^-5 ;"),
            (2, TWO + "place c depth 1 gauge g ratio ^-5 % ;"),
            (2, TWO + "place c depth -^- 1 ;"), (2, TWO + "place c depth -^x ;"), (1, TWO + "place c depth -^1x ;"),
            (2, TWO + "place c depth - ^"), (2, TWO + "place c depth ^+1 ;"),
        ])

    def test_a_leg_goes_to_another_place(self):
        check_faults(self, [], PORT, [(5, TWO + "leg L from a to ^a miles 1 depth 1 wide 1 fast 1 ;")])


class Order(unittest.TestCase):
    def test_what_can_not_stand_there(self):
        check_faults(self, [], PORT, [
            (2, "^gauge g ;"),
            (2, "^Port P keep 0 or 0 % ;"),
            (2, HEAD + "^port P keep 0 or 0 % ;"),
            (2, HEAD + "^;"),
            (2, HEAD + "^pilot x ;"),
            (2, "port P keep 0 or 0 ^;"),
            (2, "port P keep 0 ^% or 0 ;"),
            (2, "port P keep ^12:30 or 0 % ;"),
            (2, "port P keep ^2020-01-01 or 0 % ;"),
            (2, "port ^1 keep 0 or 0 % ;"),
            (2, HEAD + "gauge g ^gauge h ;"),
            (2, HEAD + "place p ^wide 4 ;"),
            (2, TWO + "place c depth 1 ^late 3 ;"),
            (2, TWO + "place c depth 1 gauge g ratio 3 ^plus 1 ;"),
            (2, TWO + "place c depth 1 gauge g plus 1 ^late 3 ;"),
            (2, TWO + "place c depth 1 gauge g ratio 1 % ^late 3 ;"),
            (2, TWO + "place c depth 1 gauge g plus 1 ^ratio 3 % ;"),
            (2, LEG + "oneway ^meet 5 ;"),
            (2, LEG + "meet 5 ^oneway ;"),
            (2, LEG + "day ^apart 5 ;"),
            (2, LEG + "apart 5 ^confined ;"),
            (2, LEG + "confined ^under 5 ;"),
            (2, LEG + "confined ^confined ;"),
            (2, LEG + "stream s ^confined ;"),
            (2, LEG + "stream s within 1 ^under 5 ;"),
            (2, TWO + "leg L ^to b from a miles 1 depth 1 wide 1 fast 1 ;"),
            (2, TWO + "leg L from a to b ^depth 1 wide 1 fast 1 ;"),
            (2, TWO + "leg L from a to b miles 1 ^wide 1 fast 1 ;"),
            (2, TWO + "leg L from a to b miles 1 depth 1 ^fast 1 ;"),
            (2, TWO + "leg L from a to b miles 1 depth 1 wide 1 ^;"),
        ])

    def test_where_the_text_ends(self):
        whole = LEG + "under 20 stream s within 1.25 confined meet 4 apart 30 day ;"
        ends = [index for index in range(len(HEAD) + 1, len(whole)) if whole[index] == " "]
        for end in ends:
            text = whole[:end]
            if not text.rstrip().endswith(";"):
                with self.subTest(text=text):
                    self.assertEqual(last((PORT, text)), [-2, 2, end])
                    self.assertEqual(last((PORT, text + " # no more\n ")), [-2, 2, end + 12])

    def test_the_first_token_from_the_left_is_told(self):
        check_faults(self, [], PORT, [
            (5, "port P keep ^11 or 101 % ?"),
            (2, "port P ^or ? keep"),
            (1, "port P ^? keep 11"),
            (1, "port P keep ^1234567890 or 10 % ;"),
            (1, "port P keep ^1.00000 or 10 % ;"),
            (4, TWO + "place ^a ? ;"),
            (3, TWO + "place c depth 1 gauge ^x ? ;"),
        ])


if __name__ == "__main__":
    unittest.main()
