"""Point 1: begin, tank, nozzle, price, meter."""

import unittest

from tests.line import FAR, last, run, station


class Begin(unittest.TestCase):
    def test_within_the_bounds(self):
        for low, high in ((0, 50), (10000, 100), (0, 100), (10000, 50), (777, 93)):
            self.assertEqual(run(f"begin {low} {high}"), [[0]])

    def test_low_is_at_most_10000(self):
        for low in (10001, FAR):
            self.assertEqual(run(f"begin {low} 100"), [[-22]])

    def test_high_is_50_to_100(self):
        for high in (0, 49, 101, FAR):
            self.assertEqual(run(f"begin 0 {high}"), [[-22]])

    def test_low_is_what_stays_in_any_tank(self):
        text = station(low=4990, rest="tank 1 9000; nozzle 1 1 0; price 1 1; drop 1 1 4995; lift 0 0; lift 1 0")
        self.assertEqual(run(text + "pour 0 1000; pour 1 1000")[-2:], [[10], [5]])

    def test_high_is_how_full_a_tank_may_be(self):
        start = "begin 0 73; tank 0 1001;"
        # 73 hundredths of 1001 are 730 and a bit, which is rounded down.
        self.assertEqual(last(start + "drop 0 0 730"), [730])
        self.assertEqual(last(start + "drop 0 0 731"), [-28])


class AddTank(unittest.TestCase):
    def test_numbers_from_0_and_no_more_than_6(self):
        found = run("begin 0 100;" + "".join(f"tank {kind} 1000;" for kind in range(6)) + "tank 0 1000")
        self.assertEqual(found[1:], [[0], [1], [2], [3], [4], [5], [-28]])

    def test_bounds(self):
        for kind, most, answer in (
            (0, 1000, 0), (5, 1000000, 0), (6, 1000, -22), (FAR, 1000, -22),
            (0, 999, -22), (0, 0, -22), (0, 1000001, -22), (0, FAR, -22),
        ):
            self.assertEqual(last(f"begin 0 100; tank {kind} {most}"), [answer], (kind, most))

    def test_out_of_range_is_told_ahead_of_no_room(self):
        full = "begin 0 100;" + "tank 0 1000;" * 6
        self.assertEqual(run(full + "tank 6 1000; tank 0 999; tank 0 1000")[-3:], [[-22], [-22], [-28]])

    def test_it_is_empty(self):
        self.assertEqual(run("begin 0 100; tank 3 1000; losses 0; dip 0; losses 0; leak 0 0; seep 0 0")[2:],
                         [[0, 0], [0, 0, 0], [1, 0], [0], [0]])

    def test_a_refused_one_is_not_there(self):
        self.assertEqual(run("begin 0 100; tank 6 1000; dip 0; tank 0 1000; dip 0; dip 1")[1:],
                         [[-22], [-2], [0], [0, 0, 0], [-2]])


class AddNozzle(unittest.TestCase):
    TANKS = "begin 0 100; tank 0 1000; tank 1 1000;"

    def test_numbers_from_0_and_no_more_than_8(self):
        found = run(self.TANKS + "nozzle 0 1 50;" * 9)
        self.assertEqual(found[3:], [[number] for number in range(8)] + [[-28]])

    def test_no_such_tank(self):
        for first, other in ((0, 2), (2, 0), (2, 2), (0, FAR), (FAR, 0), (FAR, FAR)):
            self.assertEqual(last(self.TANKS + f"nozzle {first} {other} 1"), [-2], (first, other))

    def test_part(self):
        for first, other, part, answer in (
            (0, 0, 0, 0), (0, 0, 1, -22), (1, 1, 50, -22), (0, 0, FAR, -22),
            (0, 1, 0, -22), (0, 1, 1, 0), (1, 0, 99, 0), (1, 0, 100, -22), (0, 1, FAR, -22),
        ):
            self.assertEqual(last(self.TANKS + f"nozzle {first} {other} {part}"), [answer], (first, other, part))

    def test_order_of_refusals(self):
        full = self.TANKS + "nozzle 0 0 0;" * 8
        self.assertEqual(last(self.TANKS + "nozzle 2 2 1"), [-2])
        self.assertEqual(run(full + "nozzle 0 2 0; nozzle 0 1 0; nozzle 0 1 1")[-3:], [[-2], [-22], [-28]])

    def test_it_is_right_and_without_a_price(self):
        text = self.TANKS + "drop 0 0 500; nozzle 0 0 0; lift 0 0; price 0 7; lift 0 0; pour 0 400; dip 0"
        self.assertEqual(run(text)[5:], [[-6], [0], [7], [400], [100, 0, 0]])

    def test_a_refused_one_is_not_there(self):
        self.assertEqual(run(self.TANKS + "nozzle 0 0 1; price 0 1; nozzle 0 0 0; price 0 1; price 1 1")[3:],
                         [[-22], [-2], [0], [0], [-2]])


class Price(unittest.TestCase):
    def test_it_answers_what_it_was(self):
        text = "begin 0 100; tank 0 1000; nozzle 0 0 0; price 0 1; price 0 10000; price 0 5; price 0 5; price 0 6"
        self.assertEqual(run(text)[3:], [[0], [1], [10000], [5], [5]])

    def test_bounds(self):
        for price, answer in ((0, -22), (1, 100), (10000, 100), (10001, -22), (FAR, -22)):
            self.assertEqual(last(station(rest=f"price 0 {price}")), [answer], price)

    def test_no_such_nozzle_is_told_first(self):
        self.assertEqual(run(station(rest=f"price 1 5; price 1 0; price {FAR} 10001"))[-3:], [[-2]] * 3)

    def test_a_refused_price_is_not_taken(self):
        self.assertEqual(run(station(rest="price 0 0; price 0 10001; price 0 2"))[-1], [100])

    def test_each_nozzle_has_its_own(self):
        self.assertEqual(run(station(rest="nozzle 0 0 0; price 1 3; price 0 4; price 1 5"))[-3:], [[0], [100], [3]])

    def test_a_lifted_nozzle_keeps_its_price(self):
        text = station(rest="lift 0 0; pour 0 10; price 0 300; pour 0 10; price 0 400; hang 0; lift 0 0; pour 0 10; hang 0")
        self.assertEqual(run(text)[5:], [[100], [10], [100], [10], [300], [200, 20, 1], [400], [10], [400, 10, 2]])

    def test_the_limit_goes_by_the_price_at_lifting(self):
        self.assertEqual(last(station(rest="lift 0 500; price 0 10000; pour 0 1000")), [50])
        self.assertEqual(last(station(rest="lift 0 500; price 0 1; pour 0 1000")), [50])


class Meter(unittest.TestCase):
    def test_bounds(self):
        for excess, answer in (
            (-50, 0), (0, 0), (50, 0), (-51, -22), (51, -22), (-2147483648, -22), (2147483647, -22),
        ):
            self.assertEqual(last(station(rest=f"meter 0 {excess}")), [answer], excess)

    def test_order_of_refusals(self):
        found = run(station(rest=f"lift 0 0; meter 1 51; meter {FAR} 1; meter 0 -51; meter 0 51; meter 0 0; hang 0; meter 0 1"))
        self.assertEqual(found[6:], [[-2], [-2], [-22], [-22], [-16], [0, 0, 0], [0]])

    def test_more_or_less_comes_than_is_shown(self):
        for excess, fuel in ((50, 3950), (1, 3999), (0, 4000), (-1, 4001), (-50, 4050)):
            text = station(rest=f"meter 0 {excess}; lift 0 0; pour 0 1000; dip 0")
            self.assertEqual(last(text), [fuel, 0, 4000 - fuel], excess)

    def test_a_refused_meter_is_not_taken(self):
        text = station(rest="meter 0 50; meter 0 51; lift 0 0; meter 0 -50; pour 0 1000; dip 0")
        self.assertEqual(last(text), [3950, 0, 50])

    def test_the_last_one_told_holds(self):
        self.assertEqual(last(station(rest="meter 0 50; meter 0 -50; lift 0 0; pour 0 100; dip 0")), [4905, 0, -5])


if __name__ == "__main__":
    unittest.main()
