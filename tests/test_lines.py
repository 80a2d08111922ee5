import unittest

from ridebook.errors import NoLine, NoRide
from ridebook.lines import read, shown

NINES = 10 ** 100 - 1
ROUND = 10 ** 99

RIDES = {
    "3 10 12 > 4 20 20": [(3, 10, 12), (4, 20, 20)],
    "0 0 0": [(0, 0, 0)],
    "5 7 7": [(5, 7, 7)],
    "10 -20 -10": [(10, -20, -10)],
    "0 -1 0 > 0 1 1": [(0, -1, 0), (0, 1, 1)],
    "1 -9 -8 > 2 -7 0 > 1 1 10 > 100 101 1000": [(1, -9, -8), (2, -7, 0), (1, 1, 10), (100, 101, 1000)],
    f"0 -{NINES} {NINES}": [(0, -NINES, NINES)],
    f"{NINES} -{ROUND} -{ROUND} > 39 {ROUND} {ROUND}": [(NINES, -ROUND, -ROUND), (39, ROUND, ROUND)],
}


class TestShown(unittest.TestCase):
    def test_each(self):
        for line, ride in RIDES.items():
            with self.subTest(line=line):
                self.assertEqual(shown(ride), line)

    def test_as_many_calls_as_there_may_be(self):
        ride = [(k % 40, 2 * k - 99, 2 * k - 98) for k in range(200)]
        words = shown(ride).split(" ")
        self.assertEqual(len(words), 3 * 200 + 199)
        self.assertEqual(read(shown(ride)), ride)

    def test_the_ride_is_as_it_was(self):
        ride = [(3, 10, 12), (4, 20, 20)]
        shown(ride)
        self.assertEqual(ride, [(3, 10, 12), (4, 20, 20)])

    def test_kind(self):
        self.assertEqual(type(shown([(0, 0, 0)])), str)


class TestRead(unittest.TestCase):
    def test_each(self):
        for line, ride in RIDES.items():
            with self.subTest(line=line):
                self.assertEqual(read(line), ride)

    def test_back_and_forth(self):
        for line, ride in RIDES.items():
            with self.subTest(line=line):
                self.assertEqual(read(shown(ride)), ride)
                self.assertEqual(shown(read(line)), line)

    def test_stops_of_any_number(self):
        self.assertEqual(read("40 1 2"), [(40, 1, 2)])
        self.assertEqual(read("123456789 1 2"), [(123456789, 1, 2)])

    def test_each_figure(self):
        self.assertEqual(read("1234567890 2345678901 9876543210"), [(1234567890, 2345678901, 9876543210)])

    def test_numbers_somewhat_beyond_a_hundred_figures(self):
        self.assertEqual(read(f"0 -{10 * NINES} {10 * NINES}"), [(0, -10 * NINES, 10 * NINES)])

    def test_kinds(self):
        ride = read("3 10 12 > 4 20 20")
        self.assertEqual(type(ride), list)
        self.assertEqual({type(call) for call in ride}, {tuple})
        self.assertEqual({type(number) for call in ride for number in call}, {int})


class TestRefusedLines(unittest.TestCase):
    def refused(self, *lines):
        for line in lines:
            with self.subTest(line=line), self.assertRaises(NoLine) as caught:
                read(line)
            self.assertNotIsInstance(caught.exception, NoRide)

    def test_an_empty_line(self):
        self.refused("", " ", "  ", "\n")

    def test_words_too_few(self):
        self.refused("3", "3 10", "3 10 12 > 4", "3 10 12 > 4 20", "3 10 > 4 20 20", "3 > 4 20 20")

    def test_words_too_many(self):
        self.refused("3 10 12 13", "3 10 12 > 4 20 20 20", "3 10 12 4 20 20", "3 10 12 4 > 4 20 20", "3 4 10 12")

    def test_a_call_that_is_not_there(self):
        self.refused(" > ", ">", " >", "> ", "3 10 12 > ", "3 10 12 >", " > 3 10 12", "> 3 10 12")
        self.refused("3 10 12 >  > 4 20 20", "3 10 12 > > 4 20 20")

    def test_blanks_too_many_or_at_an_end(self):
        self.refused(" 3 10 12", "3 10 12 ", "3  10 12", "3 10  12", "  3 10 12", "3 10 12  ")
        self.refused("3 10 12  > 4 20 20", "3 10 12 >  4 20 20", "3 10 12 > 4 20 20 ", " 3 10 12 > 4 20 20")

    def test_other_blanks(self):
        self.refused("3\t10 12", "3 10\t12", "3 10 12\n", "\n3 10 12", "3 10 12\t", "3\n10 12", "3 10 12\r")
        self.refused("3\u00a010 12", "3 10\u300012", "3 10 12 >\t4 20 20", "3 10 12\n> 4 20 20")
        self.refused("3 10 12\n4 20 20", "3 10 12 > 4 20 20\n", "3 10\u200b 12", "3 10\x0b12", "3 10 12\x00")

    def test_another_sign_between_calls(self):
        self.refused("3 10 12>4 20 20", "3 10 12 >4 20 20", "3 10 12> 4 20 20")
        for sign in ("<", ">>", "->", "-", ",", ";", "|", "=", "\u203a", "\uff1e", "> >", ""):
            self.refused(f"3 10 12 {sign} 4 20 20")

    def test_a_sign_between_calls_within_a_call(self):
        self.refused("3 > 10 12", "3 10 > 12", "3 10 12 > 4 > 20 20", ">3 10 12", "3 10 12>")

    def test_a_nought_ahead_of_other_figures(self):
        self.refused("03 10 12", "3 010 12", "3 10 012", "00 10 12", "3 00 12", "3 -010 12", "3 -10 -09")
        self.refused("3 -00 12", "3 10 12 > 04 20 20", "3 10 12 > 4 020 20", "3 10 12 > 4 20 020")
        self.refused("3 10 " + "0" * 99 + "12")

    def test_nought_below_nought(self):
        self.refused("3 -0 12", "3 -1 -0", "-0 10 12", "3 -9 -8 > 4 -0 0", "-0 -0 -0")

    def test_a_sign_plus(self):
        self.refused("+3 10 12", "3 +10 12", "3 10 +12", "3 +0 12", "3 10 12 > 4 +20 20")

    def test_a_sign_minus_by_itself_twice_or_elsewhere(self):
        self.refused("- 10 12", "3 - 12", "3 10 -", "3 --10 12", "3 10- 12", "3 1-0 12", "3 - 10 12", "3 +-10 12")
        self.refused("3 \u221210 12", "3 \u201310 12", "3 -+10 12")

    def test_other_signs(self):
        self.refused("a 10 12", "3 x 12", "3 10 1x", "3 1_0 12", "3 1_0 1_2", "3 10.0 12", "3 10. 12", "3 1e1 12")
        self.refused("3 0x1 12", "3 1,0 12", "(3, 10, 12)", "3,10,12", "3 10 12;", "3:10:12", "three 10 12")
        self.refused("3 10 12 # late", "None 10 12", "True 10 12", "3 10 inf", "'3' 10 12")

    def test_figures_of_other_scripts(self):
        self.refused("\u0663 10 12", "3 \uff11\uff10 12", "3 10 1\u00b2", "3 1\u0660 12", "3 10 \u0967\u0968")
        self.refused("3 10 \u00bd", "3 \u2460 12", "3 10 -\u0661")

    def test_a_stop_below_nought(self):
        self.refused("-1 10 12", "-3 10 12 > 4 20 20", "3 10 12 > -4 20 20", f"-{NINES} 10 12")

    def test_leaves_earlier_than_it_comes(self):
        self.refused("3 12 10", "3 1 0", "3 0 -1", "3 -10 -12", "3 10 12 > 4 21 20", "3 10 9 > 4 20 20")
        self.refused(f"3 {NINES} {NINES - 1}", "3 10 9")

    def test_comes_no_later_than_it_left_the_call_ahead(self):
        self.refused("3 10 12 > 4 12 20", "3 10 12 > 4 11 20", "3 10 12 > 4 5 6", "3 10 10 > 4 10 10")
        self.refused("3 -5 0 > 4 0 1", "3 -5 -4 > 4 -5 -4", "3 0 0 > 3 0 0", "3 1 2 > 4 3 4 > 5 4 5")
        self.refused(f"3 0 {NINES} > 4 {NINES} {NINES}")

    def test_just_later_is_taken(self):
        self.assertEqual(read("3 10 12 > 4 13 13"), [(3, 10, 12), (4, 13, 13)])
        self.assertEqual(read("3 -5 0 > 4 1 1"), [(3, -5, 0), (4, 1, 1)])
        self.assertEqual(read("3 -5 -4 > 4 -3 -3"), [(3, -5, -4), (4, -3, -3)])


if __name__ == "__main__":
    unittest.main()
