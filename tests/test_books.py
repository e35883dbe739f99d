"""Point 6: open, sale, sold, money, look, sums, state."""

import unittest

from tests.line import FAR, last, mixed, run, station

# Sales 0 to 4: 20, 30, 40 by nozzle 0 at 100, then 50 by nozzle 1 at 20, then 60 by nozzle 0 at 10.
SOLD = station(rest="""
    nozzle 0 0 0; price 1 20; nozzle 0 0 0; lift 0 0; pour 0 20; hang 0; hours 3; lift 0 0; pour 0 30; hang 0
    lift 0 0; pour 0 40; hours 4; hang 0; lift 1 0; pour 1 50; hang 1; price 0 10; lift 0 0; pour 0 60; hang 0
""")

# Sale s of 1 more than s tenths at a price of 10; every third one, from 1 on, is paid; from 2 on, driven off.
ALL_SALES = station(price=10, rest=" ".join(f"lift 0 0; pour 0 {s + 1}; hang 0;" for s in range(60)))
SETTLED = ALL_SALES + "".join(f"pay {s}; gone {s + 1};" for s in range(1, 60, 3))


class Open(unittest.TestCase):
    def test_how_many_then_these(self):
        self.assertEqual(last(SOLD + "open"), [5, 0, 1, 2, 3, 4])
        self.assertEqual(run(SOLD + "pay 1; open; gone 4; open; pay 0; gone 2; open; pay 3; open")[-8:],
                         [[4, 0, 2, 3, 4], [60], [3, 0, 2, 3], [200], [400], [1, 3], [100], [0]])

    def test_none(self):
        self.assertEqual(last("begin 0 100; open"), [0])
        self.assertEqual(last(station(rest="open")), [0])

    def test_what_is_shown_is_no_sale_before_it_is_hung_up(self):
        self.assertEqual(run(station(rest="lift 0 0; pour 0 5; open; hang 0; open"))[-3:], [[0], [50, 5, 1], [1, 0]])

    def test_a_nozzle_hung_up_with_nothing_shown(self):
        self.assertEqual(run(station(rest="lift 0 0; open; hang 0; open"))[-3:], [[0], [0, 0, 0], [0]])

    def test_an_amount_of_0_is_open_until_it_is_settled(self):
        self.assertEqual(run(station(price=1, rest="lift 0 0; pour 0 1; hang 0; open; pay 0; open"))[-3:],
                         [[1, 0], [0], [0]])

    def test_refused_it_stays_as_it_is(self):
        self.assertEqual(run(SOLD + f"pay 5; gone {FAR}; pay 1; gone 1; open")[-1], [4, 0, 2, 3, 4])

    def test_60_of_them(self):
        self.assertEqual(last(ALL_SALES + "open"), [60] + list(range(60)))
        self.assertEqual(last(ALL_SALES + "lift 0 0; pour 0 1; hang 0; open"), [60] + list(range(60)))
        self.assertEqual(last(SETTLED + "open"), [20] + list(range(0, 60, 3)))


class OneSale(unittest.TestCase):
    def test_its_nozzle_what_was_shown_the_amount_the_hour(self):
        found = run(SOLD + "sale 0; sale 1; sale 2; sale 3; sale 4")[-5:]
        self.assertEqual(found, [[0, 0, 20, 200, 0], [0, 0, 30, 300, 3], [0, 0, 40, 400, 7], [0, 1, 50, 100, 7],
                                 [0, 0, 60, 60, 7]])

    def test_open_paid_driven_off(self):
        text = SOLD + "pay 1; gone 3; sale 0; sale 1; sale 3; gone 1; pay 3; sale 1; sale 3"
        self.assertEqual(run(text)[-7:], [[0, 0, 20, 200, 0], [1, 0, 30, 300, 3], [2, 1, 50, 100, 7], [-17], [-17],
                                          [1, 0, 30, 300, 3], [2, 1, 50, 100, 7]])

    def test_the_hour_is_that_of_hanging_up_and_stays(self):
        text = station(rest="lift 0 0; pour 0 5; hours 9; hang 0; hours 4; sale 0; pay 0; hours 30; sale 0")
        found = run(text)
        self.assertEqual([found[-4], found[-1]], [[0, 0, 5, 50, 9], [1, 0, 5, 50, 9]])

    def test_no_such_sale(self):
        self.assertEqual(run(SOLD + f"sale 5; sale {FAR}")[-2:], [[-2], [-2]])
        self.assertEqual(run(station(rest="lift 0 0; pour 0 5; sale 0; hang 0; sale 0"))[-3:],
                         [[-2], [50, 5, 1], [0, 0, 5, 50, 0]])
        self.assertEqual(last(station(rest="lift 0 0; hang 0; sale 0")), [-2])

    def test_a_price_changed_while_somebody_pours(self):
        text = station(rest="lift 0 0; pour 0 10; price 0 300; pour 0 10; hang 0; price 0 1; sale 0")
        self.assertEqual(last(text), [0, 0, 20, 200, 0])

    def test_what_was_shown_not_what_came(self):
        self.assertEqual(last(station(rest="meter 0 -50; lift 0 0; pour 0 100; hang 0; sale 0")), [0, 0, 100, 1000, 0])

    def test_60_of_them(self):
        for part in range(0, 60, 20):
            found = run(SETTLED + "".join(f"sale {s};" for s in range(part, part + 20)))[-20:]
            self.assertEqual(found, [[s % 3, 0, s + 1, s + 1, 0] for s in range(part, part + 20)])
        self.assertEqual(last(SETTLED + "sale 60"), [-2])


class Sold(unittest.TestCase):
    def test_how_many_nozzles_then_what_each_showed(self):
        self.assertEqual(last(SOLD + "sold"), [3, 150, 50, 0])

    def test_no_nozzles(self):
        self.assertEqual(last("begin 0 100; sold"), [0])
        self.assertEqual(last(station(rest="sold")), [1, 0])
        self.assertEqual(last(station(rest="nozzle 0 0 0;" * 7 + "sold")), [8] + [0] * 8)

    def test_in_sales_alone(self):
        text = SOLD + "lift 1 0; pour 1 7; sold; hang 1; sold; lift 0 0; hang 0; sold"
        self.assertEqual(run(text)[-6:], [[3, 150, 50, 0], [14, 7, 6], [3, 150, 57, 0], [10], [0, 0, 6], [3, 150, 57, 0]])

    def test_paid_or_not(self):
        self.assertEqual(last(SOLD + "pay 0; gone 1; gone 3; sold"), [3, 150, 50, 0])

    def test_what_was_shown_not_what_came(self):
        self.assertEqual(last(mixed(5000, 5000, 30, meter=50) + "lift 0 0; pour 0 100; hang 0; sold"), [1, 100])

    def test_60_of_them(self):
        for line in (ALL_SALES, SETTLED, ALL_SALES + "lift 0 0; pour 0 1; hang 0;"):
            self.assertEqual(last(line + "sold"), [1, 1830])


class Money(unittest.TestCase):
    def test_paid_then_open_then_driven_off(self):
        text = SOLD + "money; pay 1; money; gone 2; money; pay 4; gone 0; money; pay 3; money"
        self.assertEqual([row for row in run(text)[26:] if len(row) == 3],
                         [[0, 1060, 0], [300, 760, 0], [300, 360, 400], [360, 100, 600], [460, 0, 600]])

    def test_none(self):
        self.assertEqual(last("begin 0 100; money"), [0, 0, 0])
        self.assertEqual(run(station(rest="lift 0 0; pour 0 5; money; hang 0; money"))[-3:],
                         [[0, 0, 0], [50, 5, 1], [0, 50, 0]])

    def test_refused_it_stays_as_it_is(self):
        self.assertEqual(last(SOLD + "pay 1; pay 1; gone 1; pay 5; money"), [300, 760, 0])

    def test_amounts_are_rounded_sale_by_sale(self):
        text = station(price=15, rest="lift 0 0; pour 0 1; hang 0;" * 3 + "money")
        self.assertEqual(last(text), [0, 6, 0])

    def test_60_of_them(self):
        self.assertEqual(last(ALL_SALES + "money"), [0, 1830, 0])
        self.assertEqual(last(SETTLED + "money"), [610, 590, 630])


class Look(unittest.TestCase):
    def test_kind_what_it_holds_and_the_book(self):
        text = "begin 0 100; tank 5 1000; tank 0 1000000; tank 3 4321; drop 2 3 77; look 0; look 1; look 2"
        self.assertEqual(run(text)[-3:], [[5, 1000, 0, 0, 0], [0, 1000000, 0, 0, 0], [3, 4321, 0, 0, 77]])

    def test_no_such_tank(self):
        self.assertEqual(run(station(rest=f"look 1; look {FAR}"))[-2:], [[-2], [-2]])

    def test_a_spoiled_tank_beside_a_right_one(self):
        text = mixed(500, 700, 50) + "drop 1 4 1; look 0; look 1; drop 1 1 1; look 1; drain 1; look 1"
        self.assertEqual(run(text)[-6:], [[0, 100000, 0, 0, 500], [1, 100000, 1, 0, 701], [702],
                                          [1, 100000, 1, 0, 702], [702, 0], [1, 100000, 0, 0, 0]])

    def test_a_nozzle_that_draws_from_it_is_lifted(self):
        text = mixed(500, 700, 50) + "tank 2 1000; nozzle 1 1 0; price 1 5; nozzle 2 2 0;"
        for rest, lifted in (("", [0, 0, 0]), ("lift 0 0", [1, 1, 0]), ("lift 1 0", [0, 1, 0]),
                             ("lift 0 0; hang 0", [0, 0, 0]), ("lift 0 0; lift 1 0; hang 0", [0, 1, 0]),
                             ("lift 0 0; lift 1 0; hang 1", [1, 1, 0]), ("lift 2 0", [0, 0, 0])):
            self.assertEqual([row[3] for row in run(text + rest + "; look 0; look 1; look 2")[-3:]], lifted, rest)

    def test_the_book_goes_by_what_is_shown(self):
        text = mixed(5000, 7000, 30, meter=50) + "lift 0 0; pour 0 99; look 0; look 1; hang 0; look 0; look 1"
        self.assertEqual([row[-1] for row in run(text)[-5:] if len(row) == 5], [4930, 6971, 4930, 6971])

    def test_the_book_knows_no_leak_and_no_water(self):
        text = station(rest="leak 0 9; seep 0 5; hours 6; look 0; drop 0 0 7; look 0; dip 0; look 0")
        found = run(text)
        self.assertEqual(found[-5:], [[0, 100000, 0, 0, 5000], [4953], [0, 100000, 0, 0, 5007], [4953, 30, 54],
                                      [0, 100000, 0, 0, 4953]])

    def test_the_book_may_be_below_0(self):
        self.assertEqual(last(station(fuel=19, rest="meter 0 -50; lift 0 0; pour 0 1000; look 0")),
                         [0, 100000, 0, 1, -2])

    def test_the_book_behind_a_dip_while_somebody_pours(self):
        text = station(rest="meter 0 50; lift 0 0; pour 0 100; dip 0; pour 0 50; look 0")
        self.assertEqual(last(text), [0, 100000, 0, 1, 4845])

    def test_the_book_behind_a_drain(self):
        text = station(rest="leak 0 9; hours 1; drain 0; look 0; drop 0 0 80; look 0; hours 1; dip 0; look 0")
        self.assertEqual(run(text)[-6:], [[0, 100000, 0, 0, 0], [80], [0, 100000, 0, 0, 80], [2], [71, 0, 9],
                                          [0, 100000, 0, 0, 71]])


class Sums(unittest.TestCase):
    def test_what_came_is_in_tanks_poured_leaked_drained(self):
        text = station(rest="""
            tank 1 2000; drop 1 1 600; sums; meter 0 50; lift 0 0; pour 0 100; sums; leak 1 10; hours 3; sums
            drain 1; sums; hang 0; drop 1 0 9; sums
        """)
        self.assertEqual([row for row in run(text) if len(row) == 6], [
            [0, 5600, 5600, 0, 0, 0], [0, 5600, 5495, 105, 0, 0], [0, 5600, 5465, 105, 30, 0],
            [0, 5600, 4895, 105, 30, 570], [0, 5609, 4904, 105, 30, 570],
        ])

    def test_nothing(self):
        self.assertEqual(last("begin 0 100; sums"), [0] * 6)
        self.assertEqual(last("begin 0 100; tank 0 1000; nozzle 0 0 0; drop 0 0 1001; drain 0; leak 0 9; hours 9; sums"),
                         [0] * 6)

    def test_a_mixed_nozzle(self):
        text = mixed(5000, 7000, 30, meter=-50) + "lift 0 0; pour 0 99; sums; pour 0 1; hang 0; sums"
        found = run(text)
        self.assertEqual([found[-4], found[-1]], [[0, 12000, 11906, 94, 0, 0], [0, 12000, 11905, 95, 0, 0]])

    def test_a_tank_that_leaks_dry(self):
        text = station(fuel=250, rest="leak 0 100; hours 2; sums; hours 1; sums; hours 9; sums")
        self.assertEqual([row for row in run(text) if len(row) == 6],
                         [[0, 250, 50, 0, 200, 0], [0, 250, 0, 0, 250, 0], [0, 250, 0, 0, 250, 0]])

    def test_water_is_no_fuel(self):
        text = station(rest="seep 0 9; hours 5; sums; dry 0; hours 2; sums; drain 0; sums")
        self.assertEqual([row for row in run(text) if len(row) == 6],
                         [[0, 5000, 5000, 0, 0, 0], [0, 5000, 5000, 0, 0, 0], [0, 5000, 0, 0, 0, 5000]])

    def test_spoiled_fuel_is_fuel(self):
        self.assertEqual(last(station(rest="drop 0 1 9; sums")), [0, 5009, 5009, 0, 0, 0])

    def test_all_six_tanks(self):
        text = "begin 0 100;" + "".join(f"tank {t} 1000; drop {t} {t} {100 + t}; leak {t} {t};" for t in range(6))
        self.assertEqual(last(text + "hours 2; drain 5; drain 3; sums"), [0, 615, 393, 0, 30, 192])

    def test_drained_more_than_once(self):
        self.assertEqual(last(station(rest="drain 0; drain 0; drop 0 0 7; drain 0; drop 0 0 5; sums")),
                         [0, 5012, 5, 0, 0, 5007])


class State(unittest.TestCase):
    def test_the_hour_then_how_many_tanks_nozzles_sales(self):
        self.assertEqual(last("begin 0 100; state"), [0, 0, 0, 0, 0])
        self.assertEqual(last(SOLD + "tank 0 1000; state"), [0, 7, 2, 3, 5])

    def test_sales_paid_or_not(self):
        self.assertEqual(last(SOLD + "pay 0; gone 1; lift 0 0; pour 0 1; state"), [0, 7, 1, 3, 5])

    def test_the_most_that_there_may_be(self):
        text = "begin 0 100;" + "tank 0 1000;" * 7 + "nozzle 0 0 0;" * 9 + "hours 500;" * 3 + "state"
        self.assertEqual(last(text), [0, 1500, 6, 8, 0])
        self.assertEqual(last(ALL_SALES + "lift 0 0; pour 0 1; hang 0; state"), [0, 0, 1, 1, 60])

    def test_what_is_refused_does_not_count(self):
        text = station(rest="tank 6 1000; nozzle 0 0 1; hours 501; lift 0 0; hang 0; hang 0; state")
        self.assertEqual(last(text), [0, 0, 1, 1, 0])


if __name__ == "__main__":
    unittest.main()
