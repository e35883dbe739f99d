"""Point 5: room, usable, could, lasts, order."""

import unittest

from tests.line import FAR, last, mixed, run, station


class Room(unittest.TestCase):
    def test_so_many_hundredths_rounded_down(self):
        for high, most, room in ((100, 1009, 1009), (99, 1009, 998), (50, 1009, 504), (95, 1000000, 950000)):
            self.assertEqual(last(f"begin 0 {high}; tank 0 {most}; room 0"), [room])

    def test_less_fuel_and_water(self):
        text = "begin 0 90; tank 0 1000; drop 0 0 300; seep 0 20; hours 2; room 0; dry 0; room 0; drop 0 0 600; room 0"
        self.assertEqual(run(text)[-5:], [[560], [40], [600], [900], [0]])

    def test_a_delivery_just_fits_with_water_in_the_tank(self):
        start = "begin 0 90; tank 0 1009; seep 0 7; hours 3; drop 0 0 40; room 0;"
        self.assertEqual(run(start + "drop 0 0 847; room 0")[-3:], [[847], [887], [0]])
        self.assertEqual(run(start + "drop 0 0 848; room 0")[-2:], [[-28], [847]])

    def test_0_at_least(self):
        text = "begin 0 50; tank 0 1000; drop 0 0 500; room 0; seep 0 100; hours 1; room 0; hours 9; room 0"
        self.assertEqual([row for row in run(text)[3:] if row == [0]], [[0]] * 4)

    def test_what_leaks_makes_room(self):
        self.assertEqual(last("begin 0 100; tank 0 1000; drop 0 0 1000; leak 0 9; hours 2; room 0"), [18])

    def test_a_spoiled_tank_has_room_too(self):
        self.assertEqual(last("begin 0 100; tank 0 1000; drop 0 1 100; room 0"), [900])

    def test_what_stays_does_not_count(self):
        self.assertEqual(last("begin 10000 100; tank 0 1000; room 0"), [1000])

    def test_no_such_tank(self):
        self.assertEqual(run(station(rest=f"room 1; room {FAR}"))[-2:], [[-2], [-2]])


class Usable(unittest.TestCase):
    def test_the_fuel_above_what_stays(self):
        for low, usable in ((0, 5000), (1, 4999), (4999, 1), (5000, 0), (5001, 0), (10000, 0)):
            self.assertEqual(last(station(low=low, rest="usable 0")), [usable], low)

    def test_none_of_a_spoiled_tank_beside_a_right_one(self):
        text = mixed(500, 700, 50) + "drop 0 1 1; usable 0; usable 1; drop 0 0 9; usable 0; drain 0; drop 0 0 9; usable 0"
        self.assertEqual(run(text)[-7:], [[0], [700], [510], [0], [510, 0], [9], [9]])

    def test_water_does_not_count(self):
        self.assertEqual(last(station(low=100, rest="seep 0 50; hours 4; usable 0")), [4900])

    def test_by_what_really_came(self):
        self.assertEqual(last(station(low=100, rest="meter 0 50; lift 0 0; pour 0 100; usable 0")), [4795])

    def test_a_tank_leaks_to_what_stays_and_below(self):
        text = station(low=4980, rest="leak 0 10; hours 1; usable 0; hours 1; usable 0; hours 1; usable 0")
        self.assertEqual(run(text)[-5:], [[10], [2], [0], [3], [0]])

    def test_no_such_tank(self):
        self.assertEqual(run(station(rest=f"usable 1; usable {FAR}"))[-2:], [[-2], [-2]])


class Could(unittest.TestCase):
    def test_at_most_1000(self):
        for fuel, poured in ((1001, 1000), (1000, 1000), (999, 999), (1, 1)):
            self.assertEqual(last(station(fuel=fuel, rest="could 0")), [poured])
            self.assertEqual(last(station(fuel=fuel, rest="lift 0 0; could 0")), [poured])

    def test_not_lifted_without_a_limit_or_a_price(self):
        self.assertEqual(last("begin 0 100; tank 0 5000; nozzle 0 0 0; drop 0 0 700; could 0"), [700])
        self.assertEqual(last(station(price=10000, rest="could 0")), [1000])

    def test_nothing_usable(self):
        self.assertEqual(last(station(low=5000, rest="could 0")), [0])
        self.assertEqual(last(station(low=4990, rest="could 0")), [10])
        self.assertEqual(last("begin 0 100; tank 0 5000; nozzle 0 0 0; could 0"), [0])

    def test_a_spoiled_tank(self):
        self.assertEqual(last(station(rest="drop 0 1 1; could 0")), [0])
        text = mixed(500, 700, 1) + "nozzle 0 0 0; nozzle 1 1 0; drop 1 0 1; could 0; could 1; could 2"
        self.assertEqual(run(text)[-3:], [[0], [500], [0]])

    def test_just_at_the_limit_of_a_lifted_nozzle(self):
        for price, limit, poured, left in (
            (100, 500, 50, 0), (100, 499, 49, 0), (100, 501, 50, 0), (15, 4, 2, 0), (15, 5, 3, 0), (10000, 999, 0, 0),
            (10000, 1000, 1, 0), (1, 1, 14, 0), (10, 999, 999, 0), (10, 1000, 1000, 0), (10, 1001, 1000, 1),
        ):
            text = station(price=price, rest=f"lift 0 {limit}; could 0; pour 0 1000; could 0")
            self.assertEqual(run(text)[-3:], [[poured], [poured], [left]], (price, limit))

    def test_what_is_shown_already_counts_for_the_limit(self):
        # 6 at 15 come to 9, 7 to 10.5, which is 11.
        self.assertEqual(run(station(price=15, rest="lift 0 10; could 0; pour 0 4; could 0"))[-3:], [[6], [4], [2]])

    def test_the_price_at_lifting_counts(self):
        text = station(rest="lift 0 500; price 0 1; could 0; pour 0 10; price 0 10000; could 0")
        self.assertEqual(run(text)[-4:], [[50], [10], [1], [40]])

    def test_hung_up_the_limit_is_gone_and_nothing_is_shown(self):
        text = station(price=15, rest="meter 0 -50; lift 0 10; pour 0 5; could 0; hang 0; could 0")
        self.assertEqual(run(text)[-3:], [[1], [8, 5, 1], [1000]])
        # 21 shown bring 19, as 20 do: but that is asked of the nozzle hung up, which begins anew.
        text = station(fuel=38, rest="meter 0 -50; lift 0 0; pour 0 20; could 0; hang 0; could 0")
        self.assertEqual(run(text)[-3:], [[21], [200, 20, 1], [21]])

    def test_with_60_sales_a_nozzle_that_could_not_be_hung_up(self):
        text = station(rest="lift 0 0; pour 0 2; hang 0;" * 60 + "lift 0 50; pour 0 4; hang 0; could 0")
        self.assertEqual(run(text)[-2:], [[-28], [1]])

    def test_a_meter_that_gives_less_or_more(self):
        for fuel, meter, poured in ((20, -50, 22), (19, -50, 21), (20, 50, 19), (21, 50, 20), (1000, 50, 953), (1, -1, 2)):
            self.assertEqual(last(station(fuel=fuel, rest=f"meter 0 {meter}; could 0")), [poured], (fuel, meter))

    def test_a_mixed_nozzle_one_of_whose_tanks_is_at_its_end(self):
        for first, other, part, poured in ((60, 5000, 25, 80), (5000, 26, 26, 103), (5000, 1, 1, 199), (1, 5000, 99, 100),
                                           (5000, 0, 1, 0), (0, 5000, 99, 0), (0, 0, 50, 0)):
            self.assertEqual(last(mixed(first, other, part) + "could 0"), [poured], (first, other, part))
        text = mixed(5000, 1, 1) + "lift 0 0; pour 0 100; could 0; hang 0; could 0"
        self.assertEqual(run(text)[-3:], [[0], [100, 100, 1], [0]])

    def test_it_is_what_a_pour_of_1000_comes_to(self):
        for part in (1, 40, 99):
            for meter in (-50, 0, 50):
                for limit in (0, 77, 1000):
                    start = mixed(300, 450, part, low=20, meter=meter) + f"lift 0 {limit}; pour 0 13; could 0;"
                    found = run(start + "pour 0 1000")
                    self.assertEqual(found[-2], found[-1], (part, meter, limit))

    def test_no_such_nozzle(self):
        self.assertEqual(run(station(rest=f"could 1; could {FAR}"))[-2:], [[-2], [-2]])


class Lasts(unittest.TestCase):
    def test_the_usable_at_what_was_shown_in_24_hours(self):
        self.assertEqual(last(station(rest="lift 0 0; pour 0 100; lasts 0")), [4900 * 24 // 100])
        self.assertEqual(last(station(low=900, rest="lift 0 0; pour 0 100; lasts 0")), [4000 * 24 // 100])

    def test_rounded_down(self):
        # 4993 times 24 are 119832: that is 17118 times 7 and 6 more.
        self.assertEqual(last(station(rest="lift 0 0; pour 0 7; lasts 0")), [17118])
        self.assertEqual(last(station(fuel=104, rest="lift 0 0; pour 0 100; lasts 0")), [0])
        self.assertEqual(last(station(fuel=105, rest="lift 0 0; pour 0 100; lasts 0")), [1])

    def test_nothing_was_shown(self):
        for rest in ("", "lift 0 0", "lift 0 0; hang 0", "leak 0 9; hours 5; dip 0", "drain 0", "tank 0 1000",
                     "lift 0 1; pour 0 50", "lift 0 0; drop 0 1 1; pour 0 9"):
            self.assertEqual(last(station(rest=f"{rest}; lasts 0")), [-33], rest)

    def test_no_such_tank_is_told_first(self):
        self.assertEqual(run(station(rest=f"lasts 1; lasts {FAR}; lasts 0"))[-3:], [[-2], [-2], [-33]])

    def test_the_24th_hour(self):
        for at in (0, 1, 5, 30):
            start = station(rest=(f"hours {at};" if at > 0 else "") + "lift 0 0; pour 0 100; hang 0")
            self.assertEqual(last(start + "hours 22; lasts 0"), [1176])
            self.assertEqual(last(start + "hours 23; lasts 0"), [1176])
            self.assertEqual(last(start + "hours 24; lasts 0"), [-33])
            self.assertEqual(last(start + "hours 500; lasts 0"), [-33])

    def test_each_hour_leaves_by_itself(self):
        text = station(rest="lift 0 0; pour 0 100; hours 1; pour 0 40; hours 9; pour 0 60")
        for more, shown in ((1, 200), (13, 200), (14, 100), (15, 60), (23, 60)):
            self.assertEqual(last(text + f"; hours {more}; lasts 0"), [4800 * 24 // shown], more)
        self.assertEqual(last(text + "; hours 24; lasts 0"), [-33])

    def test_hours_in_pieces(self):
        start = station(rest="lift 0 0; pour 0 100")
        self.assertEqual(run(start + "; hours 1" * 23 + "; lasts 0; hours 1; lasts 0")[-3:], [[1176], [24], [-33]])

    def test_what_counts_is_when_it_was_shown_not_when_it_was_hung_up(self):
        text = station(rest="lift 0 0; pour 0 100; hours 23; hang 0; lasts 0; hours 1; lasts 0")
        self.assertEqual(run(text)[-4:], [[1000, 100, 1], [1176], [24], [-33]])

    def test_it_counts_before_it_is_a_sale_and_whether_paid_or_not(self):
        for rest in ("", "hang 0", "hang 0; pay 0", "hang 0; gone 0"):
            self.assertEqual(last(station(rest=f"lift 0 0; pour 0 100; {rest}; lasts 0")), [1176], rest)

    def test_what_is_shown_counts_not_what_came(self):
        # 100 shown brought 105, or 95.
        self.assertEqual(last(station(rest="meter 0 50; lift 0 0; pour 0 100; lasts 0")), [4895 * 24 // 100])
        self.assertEqual(last(station(rest="meter 0 -50; lift 0 0; pour 0 100; lasts 0")), [4905 * 24 // 100])

    def test_all_nozzles_of_a_tank(self):
        text = station(rest="nozzle 0 0 0; price 1 9; lift 0 0; lift 1 0; pour 0 100; pour 1 50; pour 0 30; lasts 0")
        self.assertEqual(last(text), [4820 * 24 // 180])

    def test_a_mixed_nozzles_tanks_as_off_the_books(self):
        # Of 99 the other's are 29, the first's 70; 103 or 94 really come, of which 30 or 28 are the other's.
        for meter, first, other in ((0, 70, 29), (50, 73, 30), (-50, 66, 28)):
            text = mixed(5000, 7000, 30, meter=meter) + "lift 0 0; pour 0 99; lasts 0; lasts 1"
            self.assertEqual(run(text)[-2:], [[(5000 - first) * 24 // 70], [(7000 - other) * 24 // 29]], meter)

    def test_a_mixed_nozzle_of_whose_other_tank_nothing_is_shown_yet(self):
        text = mixed(5000, 7000, 1) + "lift 0 0; pour 0 99; lasts 0; lasts 1; pour 0 1; lasts 0; lasts 1"
        self.assertEqual(run(text)[-5:], [[4901 * 24 // 99], [-33], [1], [4901 * 24 // 99], [6999 * 24]])

    def test_a_mixed_nozzle_of_whose_first_tank_nothing_more_is_shown(self):
        # The first tenth is the first's, the second one, a day later, the other's.
        text = mixed(5000, 7000, 50) + "lift 0 0; pour 0 1; lasts 0; lasts 1; hours 24; pour 0 1; lasts 0; lasts 1"
        self.assertEqual(run(text)[-6:], [[4999 * 24], [-33], [24], [1], [-33], [6999 * 24]])

    def test_pieces_come_to_the_same_as_at_once(self):
        for pieces in ((100,), (1,) * 100, (33, 33, 34), (99, 1)):
            poured = "".join(f"pour 0 {n};" for n in pieces)
            text = mixed(5000, 7000, 37, meter=-13) + f"lift 0 0; {poured} lasts 0; lasts 1"
            # 98 really come, of which 36 are the other's.
            self.assertEqual(run(text)[-2:], [[4938 * 24 // 63], [6964 * 24 // 37]], pieces)

    def test_nothing_usable_is_left(self):
        self.assertEqual(last(station(fuel=100, rest="lift 0 0; pour 0 100; lasts 0")), [0])
        self.assertEqual(last(station(rest="lift 0 0; pour 0 100; drop 0 1 1; lasts 0")), [0])
        self.assertEqual(last(station(fuel=200, rest="lift 0 0; pour 0 100; leak 0 100; hours 1; lasts 0")), [0])

    def test_a_delivery_lengthens_it(self):
        self.assertEqual(last(station(rest="lift 0 0; pour 0 100; drop 0 0 1000; lasts 0")), [5900 * 24 // 100])

    def test_a_dip_changes_nothing_of_it(self):
        self.assertEqual(last(station(rest="meter 0 50; lift 0 0; pour 0 100; dip 0; lasts 0")), [4895 * 24 // 100])


class Order(unittest.TestCase):
    def test_fewer_than_n_hours(self):
        text = station(rest="lift 0 0; pour 0 100")
        for n, answer in ((0, [0]), (1, [0]), (1176, [0]), (1177, [1, 0]), (FAR, [1, 0])):
            self.assertEqual(last(text + f"; order {n}"), answer, n)

    def test_rounded_down_it_is_fewer_all_the_same(self):
        # It would last 17118 hours and most of one more.
        text = station(rest="lift 0 0; pour 0 7; order 17118; order 17119")
        self.assertEqual(run(text)[-2:], [[0], [1, 0]])

    def test_a_tank_at_its_end(self):
        text = station(fuel=100, rest="lift 0 0; pour 0 100; order 0; order 1")
        self.assertEqual(run(text)[-2:], [[0], [1, 0]])

    def test_where_nothing_was_shown_it_does_not_count(self):
        for rest in ("", "lift 0 0", "drain 0", "drop 0 1 1", "leak 0 100; hours 60"):
            self.assertEqual(run(station(rest=f"{rest}; order 1; order {FAR}"))[-2:], [[0], [0]], rest)
        self.assertEqual(run(f"begin 0 100; order 0; order {FAR}")[1:], [[0], [0]])

    def test_the_24th_hour(self):
        start = station(rest="lift 0 0; pour 0 100; hang 0")
        self.assertEqual(last(start + f"hours 23; order {FAR}"), [1, 0])
        self.assertEqual(last(start + f"hours 24; order {FAR}"), [0])
        start += "hours 20; lift 0 0; pour 0 50;"
        self.assertEqual(run(start + "hours 3; order 776; order 777; hours 1; order 2328; order 2329")[-5:],
                         [[0], [1, 0], [24], [0], [1, 0]])

    def test_a_mixed_nozzles_other_tank_as_off_the_books(self):
        # They last 1690 and 5769 hours: 4930 and 6971 are left, 70 and 29 were shown.
        text = mixed(5000, 7000, 30) + "lift 0 0; pour 0 99;"
        for n, answer in ((1690, [0]), (1691, [1, 0]), (5769, [1, 0]), (5770, [2, 0, 1])):
            self.assertEqual(last(text + f"order {n}"), answer, n)

    def test_a_mixed_nozzle_of_whose_other_tank_nothing_is_shown_yet(self):
        text = mixed(5000, 7000, 1) + f"lift 0 0; pour 0 99; order {FAR}; pour 0 1; order {FAR}"
        self.assertEqual(run(text)[-3:], [[1, 0], [1], [2, 0, 1]])

    def test_several_tanks_in_their_order(self):
        # The greater a tank's number, the more is poured of it and the less it lasts; of tank 2 nothing is.
        text = "begin 0 100;" + "".join(f"tank 0 1000; drop {t} 0 900; nozzle {t} {t} 0; price {t} 5;" for t in range(6))
        for t in (5, 4, 3, 1, 0):
            text += f"lift {t} 0; pour {t} {10 * t + 10};"
        lasting = [(890 - 10 * t) * 24 // (10 * t + 10) for t in range(6)]
        self.assertEqual(last(text + f"order {FAR}"), [5, 0, 1, 3, 4, 5])
        self.assertEqual(last(text + f"order {lasting[1] + 1}"), [4, 1, 3, 4, 5])
        self.assertEqual(last(text + f"order {lasting[1]}"), [3, 3, 4, 5])
        self.assertEqual(last(text + f"order {lasting[5]}"), [0])


if __name__ == "__main__":
    unittest.main()
