"""Point 4, its beginning: leak, seep, hours, dip, losses."""

import unittest

from tests.line import FAR, last, run, station


class LeakAndSeep(unittest.TestCase):
    def test_they_answer_what_it_was(self):
        for name in ("leak", "seep"):
            self.assertEqual(run(station(rest=f"{name} 0 100; {name} 0 7; {name} 0 0; {name} 0 1"))[5:],
                             [[0], [100], [7], [0]])

    def test_bounds(self):
        for name in ("leak", "seep"):
            for n, answer in ((0, 3), (100, 3), (101, -22), (FAR, -22)):
                self.assertEqual(last(station(rest=f"{name} 0 3; {name} 0 {n}")), [answer], (name, n))

    def test_no_such_tank_is_told_first(self):
        for name in ("leak", "seep"):
            self.assertEqual(run(station(rest=f"{name} 1 1; {name} 1 101; {name} {FAR} {FAR}"))[-3:], [[-2]] * 3)

    def test_a_refused_one_is_not_taken(self):
        for name in ("leak", "seep"):
            self.assertEqual(last(station(rest=f"{name} 0 5; {name} 0 101; {name} 0 6")), [5])

    def test_they_are_two_things(self):
        self.assertEqual(run(station(rest="leak 0 5; seep 0 6; leak 0 7; seep 0 8"))[5:], [[0], [0], [5], [6]])
        self.assertEqual(last(station(rest="leak 0 5; hours 2; dip 0")), [4990, 0, 10])
        self.assertEqual(last(station(rest="seep 0 5; hours 2; dip 0")), [5000, 10, 0])

    def test_each_tank_has_its_own(self):
        text = station(rest="tank 1 2000; drop 1 1 500; leak 1 5; seep 0 6; hours 10; dip 0; dip 1")
        self.assertEqual(run(text)[-2:], [[5000, 60, 0], [450, 0, 50]])

    def test_from_now_on(self):
        text = station(rest="hours 3; leak 0 10; dip 0; hours 2; leak 0 1; hours 4; dip 0; leak 0 0; hours 9; dip 0")
        self.assertEqual(run(text)[7:], [[5000, 0, 0], [5], [10], [9], [4976, 0, 24], [1], [18], [4976, 0, 0]])


class Hours(unittest.TestCase):
    def test_it_answers_which_hour_it_is(self):
        self.assertEqual(run("begin 0 100; hours 1; hours 500; hours 23")[1:], [[1], [501], [524]])

    def test_bounds(self):
        for n, answer in ((0, -22), (1, 1), (500, 500), (501, -22), (FAR, -22)):
            self.assertEqual(last(f"begin 0 100; hours {n}"), [answer], n)

    def test_refused_none_go_by(self):
        self.assertEqual(run(station(rest="leak 0 1; hours 501; hours 0; hours 1; dip 0"))[-2:], [[1], [4999, 0, 1]])

    def test_a_tank_leaks_dry(self):
        text = station(fuel=250, rest="leak 0 100; hours 2; dip 0; hours 1; dip 0; hours 1; dip 0; losses 0")
        self.assertEqual(run(text)[-7:], [[2], [50, 0, 200], [3], [0, 0, 50], [4], [0, 0, 0], [3, 250]])

    def test_leaking_goes_below_what_stays(self):
        self.assertEqual(run(station(low=5000, rest="leak 0 10; hours 3; dip 0; lift 0 0"))[-2:], [[4970, 0, 30], [-12]])

    def test_water_does_not_leak(self):
        self.assertEqual(last(station(fuel=10, rest="seep 0 9; hours 1; seep 0 0; leak 0 100; hours 5; dip 0")),
                         [0, 9, 10])

    def test_water_as_far_as_the_tank_holds_it(self):
        start = "begin 0 50; tank 0 1000; drop 0 0 500; seep 0 100;"
        self.assertEqual(run(start + "hours 4; dip 0; hours 1; dip 0; hours 1; dip 0")[4:],
                         [[4], [500, 400, 0], [5], [500, 500, 0], [6], [500, 500, 0]])
        self.assertEqual(last(start + "drop 0 0 1; seep 0 97; hours 6; dip 0"), [500, 500, 0])

    def test_the_leak_comes_first_then_the_water(self):
        full = "begin 0 100; tank 0 1000; drop 0 0 1000; leak 0 7; seep 0 100;"
        self.assertEqual(last(full + "hours 1; dip 0"), [993, 7, 7])
        self.assertEqual(last(full + "hours 10; dip 0"), [930, 70, 70])

    def test_a_spoiled_tank_leaks_and_seeps_too(self):
        self.assertEqual(last(station(rest="drop 0 1 1; leak 0 3; seep 0 4; hours 2; dip 0")), [4995, 8, 6])

    def test_hours_in_pieces(self):
        start = station(fuel=300, rest="tank 1 1000; drop 1 1 960; leak 0 13; seep 0 7; leak 1 3; seep 1 11")
        for pieces in ((60,), (1,) * 60, (1, 59), (23, 24, 13), (30, 30)):
            text = start + "".join(f"hours {n};" for n in pieces) + "dip 0; dip 1"
            self.assertEqual(run(text)[-3:], [[60], [0, 420, 300], [780, 220, 180]])


class Dip(unittest.TestCase):
    def test_fuel_then_water_then_what_is_missing(self):
        self.assertEqual(last(station(rest="leak 0 4; seep 0 9; hours 5; lift 0 0; pour 0 100; dip 0")), [4880, 45, 20])

    def test_no_such_tank(self):
        self.assertEqual(run(station(rest=f"dip 1; dip {FAR}; losses 1; losses {FAR}"))[-4:], [[-2]] * 4)

    def test_the_book_is_the_fuel_then(self):
        text = station(rest="leak 0 4; hours 5; dip 0; dip 0; hours 2; dip 0; dip 0")
        self.assertEqual(run(text)[7:], [[4980, 0, 20], [4980, 0, 0], [7], [4972, 0, 8], [4972, 0, 0]])

    def test_a_right_meter_and_no_leak_nothing_is_missing(self):
        text = station(rest="seep 0 9; lift 0 0; pour 0 77; hours 3; drop 0 0 900; pour 0 33; hang 0; drop 0 4 5; dip 0")
        self.assertEqual(last(text), [5795, 27, 0])

    def test_below_0_there_is_more(self):
        self.assertEqual(run(station(rest="meter 0 -10; lift 0 0; pour 0 1000; dip 0; losses 0"))[-2:],
                         [[4010, 0, -10], [1, -10]])

    def test_while_somebody_pours(self):
        # 150 shown bring 157, 100 bring 105: 52 come by the last 50.
        text = station(rest="meter 0 50; lift 0 0; pour 0 100; dip 0; pour 0 50; dip 0; hang 0; dip 0; losses 0")
        self.assertEqual(run(text)[7:], [[100], [4895, 0, 5], [50], [4843, 0, 2], [1500, 150, 1], [4843, 0, 0], [3, 7]])

    def test_hanging_up_takes_nothing_more_off_the_book(self):
        self.assertEqual(run(station(rest="lift 0 0; pour 0 100; dip 0; hang 0; dip 0"))[-3:],
                         [[4900, 0, 0], [1000, 100, 1], [4900, 0, 0]])

    def test_of_an_empty_tank(self):
        self.assertEqual(last("begin 0 100; tank 0 1000; leak 0 50; hours 3; dip 0"), [0, 0, 0])


class Losses(unittest.TestCase):
    def test_how_often_then_what_was_missing_in_all(self):
        text = station(rest="losses 0; leak 0 4; hours 5; losses 0; dip 0; losses 0; hours 2; dip 0; losses 0")
        found = run(text)
        self.assertEqual([row for row in found if len(row) == 2], [[0, 0], [0, 0], [1, 20], [2, 28]])

    def test_a_third_dip_without_loss_counts(self):
        text = station(rest="leak 0 4; hours 1; dip 0; hours 1; dip 0; leak 0 0; hours 1; dip 0; losses 0")
        self.assertEqual(run(text)[-2:], [[4992, 0, 0], [3, 8]])

    def test_each_tank_by_itself(self):
        text = station(rest="tank 0 1000; drop 1 0 9; leak 0 4; leak 1 1; hours 2; dip 1; dip 0; dip 1; losses 0; losses 1")
        self.assertEqual(run(text)[-2:], [[1, 8], [2, 2]])

    def test_more_in_one_dip_and_less_in_another(self):
        text = station(rest="""
            meter 0 -50; lift 0 0; pour 0 100; hang 0; dip 0; leak 0 1; hours 2; dip 0; losses 0
            meter 0 20; lift 0 0; pour 0 1000; dip 0; losses 0
        """)
        found = run(text)
        self.assertEqual([row for row in found if len(row) == 2], [[2, -3], [3, 17]])

    def test_looking_does_not_count_as_a_dip(self):
        self.assertEqual(run(station(rest="losses 0; losses 0; dip 0; losses 0; losses 0"))[-2:], [[1, 0], [1, 0]])


if __name__ == "__main__":
    unittest.main()
