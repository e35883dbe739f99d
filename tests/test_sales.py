"""Point 3: hang, pay, gone."""

import unittest

from tests.line import FAR, last, run, station

SOLD = station(rest="lift 0 0; pour 0 20; hang 0; lift 0 0; pour 0 30; hang 0; lift 0 0; pour 0 40; hang 0")
ALL_SALES = station(rest="nozzle 0 0 0; price 1 9;" + "lift 0 0; pour 0 2; hang 0;" * 60)


class Hang(unittest.TestCase):
    def test_the_amount_then_what_was_shown_then_how_many_sales(self):
        self.assertEqual([row for row in run(SOLD) if len(row) == 3], [[200, 20, 1], [300, 30, 2], [400, 40, 3]])

    def test_order_of_refusals(self):
        self.assertEqual(run(station(rest=f"hang 1; hang {FAR}; hang 0"))[-3:], [[-2], [-2], [-13]])
        self.assertEqual(run(ALL_SALES + "hang 2; hang 1")[-2:], [[-2], [-13]])

    def test_once_alone(self):
        self.assertEqual(run(station(rest="lift 0 0; pour 0 1; hang 0; hang 0; pour 0 1"))[-2:], [[-13], [-13]])

    def test_nothing_shown_is_no_sale(self):
        self.assertEqual(run(station(rest="lift 0 0; hang 0; pay 0; hang 0"))[-3:], [[0, 0, 0], [-2], [-13]])
        self.assertEqual(run(SOLD + "lift 0 0; hang 0; pay 3")[-2:], [[0, 0, 3], [-2]])

    def test_nothing_shown_after_a_sale_of_the_same_nozzle(self):
        self.assertEqual(run(SOLD + "lift 0 0; hang 0; lift 0 0; pour 0 1; hang 0")[-4:],
                         [[0, 0, 3], [100], [1], [10, 1, 4]])

    def test_the_amount_is_to_the_nearest_of_two_the_greater(self):
        for price, shown, due in ((1, 1, 0), (1, 4, 0), (1, 5, 1), (1, 14, 1), (1, 15, 2), (3, 8, 2), (3, 9, 3),
                                  (5, 1, 1), (4, 1, 0), (137, 73, 1000), (9999, 1000, 999900), (10000, 1, 1000)):
            self.assertEqual(last(station(price=price, rest=f"lift 0 0; pour 0 {shown}; hang 0")), [due, shown, 1])

    def test_an_amount_of_0_is_a_sale_all_the_same(self):
        self.assertEqual(run(station(price=1, rest="lift 0 0; pour 0 1; hang 0; pay 0; pay 0"))[-3:],
                         [[0, 1, 1], [0], [-17]])

    def test_more_than_one_pour_is_one_sale(self):
        self.assertEqual(last(station(price=13, rest="lift 0 0;" + "pour 0 1;" * 9 + "hang 0")), [12, 9, 1])

    def test_two_nozzles_at_once(self):
        text = station(rest="nozzle 0 0 0; price 1 20; lift 0 0; lift 1 0; pour 0 5; pour 1 6; hang 1; pour 0 5; hang 0")
        self.assertEqual(run(text + "pay 0; pay 1")[-5:], [[12, 6, 1], [5], [100, 10, 2], [12], [100]])

    def test_hours_may_go_by_meanwhile(self):
        self.assertEqual(run(station(rest="lift 0 0; pour 0 5; hours 30; pour 0 5; hang 0"))[-2:], [[5], [100, 10, 1]])

    def test_no_more_than_60_sales(self):
        found = run(ALL_SALES + "lift 0 0; pour 0 1; hang 0; pay 59; pay 60")
        self.assertEqual(found[-6], [20, 2, 60])
        self.assertEqual(found[-3:], [[-28], [20], [-2]])

    def test_refused_for_60_sales_it_stays_lifted(self):
        found = run(ALL_SALES + "lift 0 0; pour 0 1; hang 0; lift 0 0; meter 0 1; pour 0 3; hang 0; dip 0")
        self.assertEqual(found[-6:], [[-28], [-16], [-16], [3], [-28], [4876, 0, 0]])

    def test_refused_for_60_sales_it_keeps_what_is_shown_and_the_limit(self):
        found = run(ALL_SALES + "lift 0 50; pour 0 4; hang 0; pour 0 9")
        self.assertEqual(found[-2:], [[-28], [1]])

    def test_with_60_sales_a_nozzle_with_nothing_shown_is_hung_up(self):
        self.assertEqual(run(ALL_SALES + "lift 1 0; hang 1; hang 1")[-2:], [[0, 0, 60], [-13]])

    def test_paid_sales_make_no_room(self):
        self.assertEqual(last(ALL_SALES + "pay 0; gone 1; lift 0 0; pour 0 1; hang 0"), [-28])


class Settle(unittest.TestCase):
    def test_it_answers_the_amount(self):
        self.assertEqual(run(SOLD + "pay 2; gone 0; pay 1")[-3:], [[400], [200], [300]])

    def test_once_alone(self):
        for once in ("pay", "gone"):
            for again in ("pay", "gone"):
                self.assertEqual(run(SOLD + f"{once} 1; {again} 1; {again} 1")[-3:], [[300], [-17], [-17]])

    def test_each_sale_by_itself(self):
        self.assertEqual(run(SOLD + "pay 0; pay 0; gone 1; pay 2; gone 2")[-5:], [[200], [-17], [300], [400], [-17]])

    def test_no_such_sale(self):
        for told in ("pay 3", "gone 3", f"pay {FAR}", f"gone {FAR}"):
            self.assertEqual(last(SOLD + told), [-2])
            self.assertEqual(last("begin 0 100;" + told), [-2])

    def test_what_is_still_poured_is_no_sale_yet(self):
        self.assertEqual(run(station(rest="lift 0 0; pour 0 9; pay 0; gone 0; hang 0; gone 0"))[-4:],
                         [[-2], [-2], [90, 9, 1], [90]])

    def test_a_later_price_changes_no_amount(self):
        self.assertEqual(last(SOLD + "price 0 9999; pay 0"), [200])


if __name__ == "__main__":
    unittest.main()
