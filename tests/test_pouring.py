"""Point 2: drop, lift, pour."""

import unittest

from tests.line import FAR, last, mixed, run, station


class Drop(unittest.TestCase):
    TANK = "begin 0 90; tank 2 1000000;"

    def test_it_answers_how_much_fuel_there_is(self):
        self.assertEqual(run(self.TANK + "drop 0 2 1; drop 0 2 200000; drop 0 2 99; dip 0")[2:],
                         [[1], [200001], [200100], [200100, 0, 0]])

    def test_bounds(self):
        for kind, n, answer in (
            (2, 0, -22), (2, 1, 1), (2, 200000, 200000), (2, 200001, -22), (2, FAR, -22),
            (0, 5, 5), (5, 5, 5), (6, 5, -22), (FAR, 5, -22),
        ):
            self.assertEqual(last(self.TANK + f"drop 0 {kind} {n}"), [answer], (kind, n))

    def test_order_of_refusals(self):
        full = "begin 0 100; tank 0 1000; drop 0 0 1000;"
        for text, answer in (("drop 1 6 0", -2), (f"drop {FAR} 0 1", -2), ("drop 0 6 1", -22),
                             ("drop 0 0 0", -22), ("drop 0 0 200001", -22), ("drop 0 0 1", -28)):
            self.assertEqual(last(full + text), [answer], text)

    def test_just_fits(self):
        for high, room in ((100, 1009), (99, 998), (50, 504)):
            start = f"begin 0 {high}; tank 0 1009;"
            self.assertEqual(last(start + f"drop 0 0 {room}"), [room])
            self.assertEqual(last(start + f"drop 0 0 {room + 1}"), [-28])
            self.assertEqual(run(start + f"drop 0 0 {room}; drop 0 0 1; dip 0")[-2:], [[-28], [room, 0, 0]])

    def test_just_fits_with_water_in_the_tank(self):
        start = "begin 0 90; tank 0 1000; seep 0 30; hours 2; drop 0 0 40;"
        self.assertEqual(last(start + "drop 0 0 801"), [-28])
        self.assertEqual(run(start + "drop 0 0 800; drop 0 0 1; dip 0")[-3:], [[840], [-28], [840, 60, 0]])

    def test_no_room_where_water_has_risen_above_what_may_be_filled(self):
        text = "begin 0 50; tank 0 1000; drop 0 0 500; seep 0 100; hours 9; drop 0 0 1; dip 0"
        self.assertEqual(run(text)[-2:], [[-28], [500, 500, 0]])

    def test_another_kind_spoils(self):
        text = station(rest="drop 0 1 1; lift 0 0; drop 0 0 1000; lift 0 0; dip 0")
        self.assertEqual(run(text)[5:], [[5001], [-33], [6001], [-33], [6001, 0, 0]])

    def test_another_kind_spoils_an_empty_tank(self):
        text = "begin 0 100; tank 1 5000; nozzle 0 0 0; price 0 5; drop 0 0 1000; lift 0 0"
        self.assertEqual(last(text), [-33])

    def test_a_refused_delivery_spoils_nothing(self):
        text = "begin 0 100; tank 0 1000; nozzle 0 0 0; price 0 5; drop 0 0 1000; drop 0 1 1; drop 0 6 1; lift 0 0"
        self.assertEqual(run(text)[-3:], [[-28], [-22], [5]])


class Lift(unittest.TestCase):
    def test_it_answers_the_price(self):
        self.assertEqual(last(station(price=137, rest="lift 0 0")), [137])

    def test_limit_bounds(self):
        for limit, answer in ((0, 100), (1, 100), (1000000, 100), (1000001, -22), (FAR, -22)):
            self.assertEqual(last(station(rest=f"lift 0 {limit}")), [answer], limit)

    def test_each_refusal(self):
        unset = "begin 0 100; tank 0 9000; nozzle 0 0 0;"
        self.assertEqual(last(unset + "drop 0 0 5; lift 1 0"), [-2])
        self.assertEqual(last(station(rest="lift 0 0; lift 0 0")), [-16])
        self.assertEqual(last(unset + "drop 0 0 5; lift 0 0"), [-6])
        self.assertEqual(last(station(rest="drop 0 3 5; lift 0 0")), [-33])
        self.assertEqual(last(unset + "price 0 1; lift 0 0"), [-12])

    def test_order_of_refusals(self):
        unset = "begin 0 100; tank 0 9000; nozzle 0 0 0;"
        self.assertEqual(last(unset + f"lift {FAR} {FAR}"), [-2])
        self.assertEqual(last(station(rest="lift 0 0; lift 0 1000001")), [-22])
        self.assertEqual(last(unset + "lift 0 1000001"), [-22])
        # Lifted, its tank spoiled and at its end: that it is lifted is told first.
        self.assertEqual(last(station(rest="lift 0 0; drop 0 1 1; lift 0 0")), [-16])
        self.assertEqual(last(station(fuel=10, rest="lift 0 0; pour 0 10; lift 0 0")), [-16])
        self.assertEqual(last(unset + "drop 0 1 5; lift 0 0"), [-6])
        self.assertEqual(last(unset + "lift 0 0"), [-6])
        self.assertEqual(last("begin 9 100; tank 0 9000; nozzle 0 0 0; price 0 1; drop 0 1 9; lift 0 0"), [-33])

    def test_not_enough_is_nothing_above_what_stays(self):
        self.assertEqual(last(station(low=5000, rest="lift 0 0")), [-12])
        self.assertEqual(last(station(low=4999, rest="lift 0 0")), [100])
        self.assertEqual(last(station(low=5001, rest="lift 0 0")), [-12])

    def test_the_limit_is_not_looked_at(self):
        self.assertEqual(run(station(price=10000, rest="lift 0 1; pour 0 1000; hang 0"))[-3:], [[10000], [0], [0, 0, 0]])

    def test_a_meter_that_gives_less_needs_something_usable_all_the_same(self):
        # The first tenth that is shown brings nothing, but a tank at its end gives not even that.
        self.assertEqual(last(station(low=5000, rest="meter 0 -50; lift 0 0")), [-12])

    def test_mixed_needs_both_tanks(self):
        for first, other, answer in ((1, 1, 10), (0, 1, -12), (1, 0, -12), (0, 0, -12)):
            self.assertEqual(last(mixed(first, other, 1) + "lift 0 0"), [answer], (first, other))

    def test_a_spoiled_tank_beside_a_right_one(self):
        self.assertEqual(last(mixed(500, 500, 50) + "drop 0 1 1; lift 0 0"), [-33])
        self.assertEqual(last(mixed(500, 500, 50) + "drop 1 0 1; lift 0 0"), [-33])
        text = mixed(500, 500, 50) + "nozzle 0 0 0; nozzle 1 1 0; price 1 7; price 2 8; drop 1 0 1; lift 1 0; lift 2 0"
        self.assertEqual(run(text)[-2:], [[7], [-33]])

    def test_a_refused_lift_leaves_it_hung_up(self):
        self.assertEqual(last(station(rest="lift 0 1000001; pour 0 1")), [-13])
        self.assertEqual(last(station(low=5000, rest="lift 0 0; pour 0 1")), [-13])

    def test_a_refused_lift_leaves_it_as_it_was_lifted(self):
        self.assertEqual(run(station(rest="lift 0 100; pour 0 7; price 0 500; lift 0 0; pour 0 1000; hang 0"))[-3:],
                         [[-16], [3], [100, 10, 1]])

    def test_a_limit_does_not_outlast_hanging_up(self):
        self.assertEqual(last(station(rest="lift 0 100; pour 0 9; hang 0; lift 0 0; pour 0 1000")), [1000])


class Pour(unittest.TestCase):
    def test_it_answers_how_much_is_poured(self):
        self.assertEqual(run(station(rest="lift 0 0; pour 0 1; pour 0 1000; dip 0"))[-3:],
                         [[1], [1000], [3999, 0, 0]])

    def test_n_bounds(self):
        for n, answer in ((0, -22), (1, 1), (1000, 1000), (1001, -22), (FAR, -22)):
            self.assertEqual(last(station(rest=f"lift 0 0; pour 0 {n}")), [answer], n)

    def test_order_of_refusals(self):
        self.assertEqual(run(station(rest=f"pour 1 0; pour {FAR} 1; pour 0 0; pour 0 1001; pour 0 1"))[-5:],
                         [[-2], [-2], [-22], [-22], [-13]])

    def test_down_to_what_stays(self):
        text = station(low=4321, rest="lift 0 0; pour 0 600; pour 0 600; pour 0 1; dip 0")
        self.assertEqual(run(text)[-4:], [[600], [79], [0], [4321, 0, 0]])

    def test_two_nozzles_of_one_tank(self):
        text = station(fuel=15, rest="nozzle 0 0 0; price 1 5; lift 0 0; lift 1 0; pour 0 10; pour 1 10; pour 0 10")
        self.assertEqual(run(text)[-3:], [[10], [5], [0]])

    def test_a_tank_spoiled_meanwhile(self):
        text = station(rest="lift 0 0; pour 0 10; drop 0 4 1; pour 0 10; hang 0; dip 0")
        self.assertEqual(run(text)[-3:], [[0], [100, 10, 1], [4991, 0, 0]])

    def test_a_mixed_nozzle_one_of_whose_tanks_is_spoiled_meanwhile(self):
        # 1 hundredth of 5 is nothing, but of a spoiled tank's nozzle not even the rest is poured.
        self.assertEqual(last(mixed(500, 500, 1) + "lift 0 0; drop 1 0 1; pour 0 5"), [0])
        self.assertEqual(last(mixed(500, 500, 99) + "lift 0 0; drop 0 1 1; pour 0 5"), [0])

    def test_a_delivery_meanwhile(self):
        text = station(fuel=10, rest="lift 0 0; pour 0 20; pour 0 20; drop 0 0 7; pour 0 20; hang 0")
        self.assertEqual(run(text)[-5:], [[10], [0], [7], [7], [170, 17, 1]])

    def test_water_is_not_poured(self):
        self.assertEqual(run(station(fuel=10, rest="seep 0 50; hours 3; lift 0 0; pour 0 100; dip 0"))[-2:],
                         [[10], [0, 150, 0]])


class Limit(unittest.TestCase):
    def test_just_at_the_limit(self):
        for price, limit, poured in (
            (100, 500, 50), (100, 499, 49), (100, 501, 50), (137, 1000, 73), (137, 1001, 73), (10000, 1000, 1),
            (10000, 999, 0), (1, 1, 14), (15, 1, 0), (15, 2, 1), (14, 1, 1), (10, 77, 77),
        ):
            text = station(price=price, rest=f"lift 0 {limit}; pour 0 1000")
            self.assertEqual(last(text), [poured], (price, limit))

    def test_the_amount_of_all_that_is_shown_counts(self):
        text = station(price=15, rest="lift 0 10; pour 0 3; pour 0 3; pour 0 3; hang 0")
        # 6 come to 9, 7 to 10.5, which is 11.
        self.assertEqual(run(text)[-4:], [[3], [3], [0], [9, 6, 1]])

    def test_of_two_the_greater_is_above_the_limit(self):
        # 3 at 15 come to 4.5: that is 5.
        self.assertEqual(last(station(price=15, rest="lift 0 4; pour 0 9")), [2])
        self.assertEqual(last(station(price=15, rest="lift 0 5; pour 0 9")), [3])

    def test_0_is_none(self):
        self.assertEqual(last(station(price=10000, rest="lift 0 0; pour 0 1000; hang 0")), [1000000, 1000, 1])

    def test_never_more_than_paid_ahead_and_as_far_as_it_goes(self):
        for price in (1, 3, 9, 10, 33, 105, 999, 10000):
            for limit in (1, 2, 7, 50, 333, 4000):
                poured = last(station(price=price, rest=f"lift 0 {limit}; pour 0 1000"))[0]
                self.assertLessEqual((2 * price * poured + 10) // 20, limit)
                if poured < 1000:
                    self.assertGreater((2 * price * (poured + 1) + 10) // 20, limit)

    def test_the_greatest_limit(self):
        text = station(price=10000, rest="lift 0 1000000; pour 0 999; pour 0 1000; hang 0")
        self.assertEqual(run(text)[-3:], [[999], [1], [1000000, 1000, 1]])


class MeterOff(unittest.TestCase):
    def test_rounded_down(self):
        for excess, poured, came in ((-50, 1, 0), (-50, 2, 1), (-50, 20, 19), (-50, 21, 19), (-1, 1, 0), (-1, 999, 998),
                                     (-1, 1000, 999), (50, 1, 1), (50, 19, 19), (50, 20, 21), (1, 999, 999), (7, 143, 144)):
            text = station(rest=f"meter 0 {excess}; lift 0 0; pour 0 {poured}; dip 0")
            self.assertEqual(last(text), [5000 - came, 0, came - poured], (excess, poured))

    def test_less_comes_so_more_is_shown(self):
        # 22 shown bring 20.9, that is 20; 23 would bring 21.85.
        self.assertEqual(run(station(fuel=20, rest="meter 0 -50; lift 0 0; pour 0 1000; dip 0"))[-2:],
                         [[22], [0, 0, -2]])

    def test_all_that_the_usable_is_enough_for(self):
        # 21 shown bring 19.95, that is 19, as 20 shown do.
        self.assertEqual(last(station(fuel=19, rest="meter 0 -50; lift 0 0; pour 0 1000")), [21])

    def test_nothing_where_nothing_is_usable_now(self):
        text = station(fuel=19, rest="meter 0 -50; lift 0 0; pour 0 20; pour 0 1; dip 0")
        self.assertEqual(run(text)[-3:], [[20], [0], [0, 0, -1]])

    def test_more_comes_so_less_is_shown(self):
        # 20 shown bring 21: of 20 there are only 19 to be had, and one is left that can't be poured.
        self.assertEqual(run(station(fuel=20, rest="meter 0 50; lift 0 0; pour 0 1000; pour 0 1; dip 0"))[-3:],
                         [[19], [0], [1, 0, 0]])

    def test_lifted_anew_it_counts_anew(self):
        text = station(rest="meter 0 -50;" + "lift 0 0; pour 0 1; hang 0;" * 20 + "dip 0")
        self.assertEqual(last(text), [5000, 0, -20])

    def test_the_amount_is_of_what_is_shown(self):
        for excess in (-50, 50):
            self.assertEqual(last(station(rest=f"meter 0 {excess}; lift 0 300; pour 0 1000; hang 0")), [300, 30, 1])


class Mixed(unittest.TestCase):
    def test_parts(self):
        for part, poured, first, other in (
            (50, 100, 50, 50), (50, 101, 51, 50), (1, 99, 99, 0), (1, 100, 99, 1), (99, 1, 1, 0), (99, 100, 1, 99),
            (33, 10, 7, 3), (33, 1000, 670, 330),
        ):
            text = mixed(5000, 7000, part) + f"lift 0 0; pour 0 {poured}; dip 0; dip 1"
            self.assertEqual(run(text)[-3:], [[poured], [5000 - first, 0, 0], [7000 - other, 0, 0]], (part, poured))

    def test_parts_of_what_really_comes(self):
        # 300 shown bring 315: 94 of the other, 221 of the first; off the books go 90 and 210.
        text = mixed(5000, 7000, 30, meter=50) + "lift 0 0; pour 0 300; dip 0; dip 1"
        self.assertEqual(run(text)[-2:], [[4779, 0, 11], [6906, 0, 4]])
        # 99 shown bring 94: 28 and 66; off the books go 29 and 70.
        text = mixed(5000, 7000, 30, meter=-50) + "lift 0 0; pour 0 99; dip 0; dip 1"
        self.assertEqual(run(text)[-2:], [[4934, 0, -4], [6972, 0, -1]])

    def test_the_first_tank_at_its_end(self):
        text = mixed(60, 5000, 25) + "lift 0 0; pour 0 1000; pour 0 1; dip 0; dip 1"
        self.assertEqual(run(text)[-4:], [[80], [0], [0, 0, 0], [4980, 0, 0]])

    def test_the_other_tank_at_its_end(self):
        # 26 hundredths of 103 are 26, of 104 they are 27.
        text = mixed(5000, 26, 26) + "lift 0 0; pour 0 1000; pour 0 1; dip 0; dip 1"
        self.assertEqual(run(text)[-4:], [[103], [0], [4923, 0, 0], [0, 0, 0]])

    def test_nothing_where_one_tank_has_no_usable(self):
        # The other's part of one more would round down to nothing.
        text = mixed(5000, 1, 1) + "lift 0 0; pour 0 100; pour 0 1; hang 0; lift 0 0"
        self.assertEqual(run(text)[-4:], [[100], [0], [100, 100, 1], [-12]])

    def test_nothing_where_the_first_tank_has_no_usable(self):
        # 99 hundredths of 1 are the first's alone, of 2 they are one of each.
        text = mixed(1, 5000, 99) + "lift 0 0; pour 0 1; pour 0 1; dip 0; dip 1"
        self.assertEqual(run(text)[-4:], [[1], [0], [0, 0, 0], [5000, 0, 0]])
        # The first tenth that is shown brings nothing of either tank.
        self.assertEqual(last(mixed(0, 5000, 50, meter=-50) + "lift 0 0"), [-12])
        self.assertEqual(last(mixed(5000, 0, 50, meter=-50) + "lift 0 0"), [-12])

    def test_all_that_both_tanks_are_enough_for(self):
        # 1 hundredth of 199 is 1, which is there.
        self.assertEqual(last(mixed(5000, 1, 1) + "lift 0 0; pour 0 1000"), [199])

    def test_what_stays_is_kept_in_both(self):
        text = mixed(5000, 5000, 40, low=4900) + "lift 0 0; pour 0 1000; dip 0; dip 1"
        self.assertEqual(run(text)[-3:], [[166], [4900, 0, 0], [4934, 0, 0]])

    def test_another_nozzle_draws_from_one_of_its_tanks(self):
        text = mixed(100, 100, 50) + "nozzle 1 1 0; price 1 5; lift 0 0; lift 1 0; pour 1 90; pour 0 1000; pour 1 10"
        self.assertEqual(run(text)[-3:], [[90], [21], [0]])

    def test_the_limit_holds_for_a_mixed_one_too(self):
        self.assertEqual(last(mixed(5000, 5000, 50) + "lift 0 33; pour 0 1000"), [33])


if __name__ == "__main__":
    unittest.main()
