"""Point 4, the rest: suspects, drain, dry."""

import unittest

from tests.line import FAR, last, mixed, run, station


def dips(*missing):
    """Calls by which a tank 0 that doesn't leak is dipped, so much missing each time."""
    return "".join(f"leak 0 {n}; hours 1; leak 0 0; dip 0;" for n in missing)


class Suspects(unittest.TestCase):
    def test_the_last_three_dips_each_missed_more(self):
        text = station(rest=dips(5, 7, 6))
        for n, answer in ((0, [1, 0]), (4, [1, 0]), (5, [0]), (6, [0]), (7, [0]), (FAR, [0])):
            self.assertEqual(last(text + f"suspects {n}"), answer, n)

    def test_whichever_of_the_three_missed_the_least(self):
        for missing in ((3, 9, 9), (9, 3, 9), (9, 9, 3)):
            self.assertEqual(run(station(rest=dips(*missing)) + "suspects 2; suspects 3")[-2:], [[1, 0], [0]], missing)

    def test_fewer_than_three_dips(self):
        for missing in ((), (9,), (9, 9)):
            self.assertEqual(last(station(rest=dips(*missing)) + "suspects 0"), [0], missing)

    def test_a_third_dip_without_loss(self):
        self.assertEqual(last(station(rest=dips(9, 9, 0)) + "suspects 0"), [0])
        self.assertEqual(last(station(rest=dips(9, 9, 9)) + "dip 0; suspects 0"), [0])
        self.assertEqual(last(station(rest=dips(9, 0, 9, 9)) + "suspects 0"), [0])

    def test_only_the_last_three_count(self):
        self.assertEqual(last(station(rest=dips(0, 9, 9, 9)) + "suspects 8"), [1, 0])
        self.assertEqual(last(station(rest=dips(9, 9, 9, 1, 1, 1)) + "suspects 1"), [0])
        self.assertEqual(last(station(rest=dips(1, 1, 1, 9, 9, 9)) + "suspects 8"), [1, 0])

    def test_three_dips_that_came_to_much_but_not_each(self):
        self.assertEqual(last(station(rest=dips(100, 100, 1)) + "suspects 1"), [0])

    def test_more_than_there_should_be_is_no_loss(self):
        sold = "lift 0 0; pour 0 100; hang 0; dip 0;"
        self.assertEqual(run(station(rest="meter 0 -50;" + sold * 3) + "losses 0; suspects 0")[-2:], [[3, -15], [0]])

    def test_a_meter_that_gives_more(self):
        sold = "lift 0 0; pour 0 100; hang 0; dip 0;"
        self.assertEqual(run(station(rest="meter 0 50;" + sold * 3) + "suspects 4; suspects 5")[-2:], [[1, 0], [0]])

    def test_several_tanks_in_their_order(self):
        start = "begin 0 100;" + "".join(f"tank 0 1000; drop {t} 0 900; leak {t} {t};" for t in range(6))
        text = start + "hours 1; dip 5; dip 4; dip 3; dip 2; dip 1; dip 0;" * 3
        self.assertEqual(run(text + "suspects 0; suspects 2; suspects 4; suspects 5")[-4:],
                         [[5, 1, 2, 3, 4, 5], [3, 3, 4, 5], [1, 5], [0]])

    def test_each_tanks_own_dips_count(self):
        text = "begin 0 100; tank 0 1000; tank 0 1000; drop 0 0 900; drop 1 0 900; leak 0 3; leak 1 3;"
        found = last(text + "hours 1; dip 0; dip 1; hours 1; dip 0; dip 1; hours 1; dip 1; suspects 2")
        self.assertEqual(found, [1, 1])

    def test_no_tanks(self):
        self.assertEqual(run(f"begin 0 100; suspects 0; suspects {FAR}")[1:], [[0], [0]])

    def test_a_refused_dip_and_looking_are_no_dips(self):
        self.assertEqual(last(station(rest=dips(9, 9, 9)) + "dip 1; look 0; losses 0; suspects 8; suspects 8"), [1, 0])


class Drain(unittest.TestCase):
    def test_how_much_fuel_then_how_much_water(self):
        text = station(rest="seep 0 7; hours 3; drain 0; drain 0")
        self.assertEqual(run(text)[-2:], [[5000, 21], [0, 0]])

    def test_below_what_stays_too(self):
        self.assertEqual(run(station(low=10000, rest="drain 0; usable 0"))[-2:], [[5000, 0], [0]])

    def test_no_such_tank(self):
        self.assertEqual(run(station(rest=f"lift 0 0; drain 1; drain {FAR}"))[-2:], [[-2], [-2]])
        self.assertEqual(last("begin 0 100; drain 0"), [-2])

    def test_not_while_a_nozzle_that_draws_from_it_is_lifted(self):
        text = station(rest="lift 0 0; drain 0; usable 0; hang 0; drain 0; usable 0")
        self.assertEqual(run(text)[-5:], [[-16], [5000], [0, 0, 0], [5000, 0], [0]])

    def test_lifted_as_its_first_or_as_its_other_tank(self):
        text = mixed(500, 700, 30) + "tank 0 1000; drop 2 0 3; lift 0 0; drain 0; drain 1; drain 2; hang 0;"
        self.assertEqual(run(text + "drain 0; drain 1")[-6:], [[-16], [-16], [3, 0], [0, 0, 0], [500, 0], [700, 0]])

    def test_one_of_several_nozzles_is_lifted(self):
        start = station(rest="nozzle 0 0 0; price 1 5; nozzle 0 0 0; price 2 5")
        for z in range(3):
            self.assertEqual(run(start + f"lift {z} 0; drain 0; hang {z}; drain 0")[-3:], [[-16], [0, 0, 0], [5000, 0]])

    def test_a_nozzle_of_another_tank_does_not_hinder(self):
        text = station(rest="tank 1 2000; drop 1 1 800; lift 0 0; drain 1; pour 0 10")
        self.assertEqual(run(text)[-2:], [[800, 0], [10]])

    def test_refused_it_changes_nothing(self):
        text = station(rest="lift 0 0; pour 0 50; seep 0 3; hours 1; drop 0 1 1; drain 0; look 0; dry 0; dip 0; sums")
        self.assertEqual(run(text)[-5:], [[-16], [0, 100000, 1, 1, 4951], [3], [4951, 0, 0], [0, 5001, 4951, 50, 0, 0]])

    def test_it_is_spoiled_no_more(self):
        text = station(rest="drop 0 1 1; look 0; drain 0; look 0; lift 0 0; drop 0 0 9; lift 0 0; pour 0 100")
        self.assertEqual(run(text)[6:], [
            [0, 100000, 1, 0, 5001], [5001, 0], [0, 100000, 0, 0, 0], [-12], [9], [100], [9],
        ])

    def test_its_kind_and_what_it_holds_stay(self):
        text = "begin 0 90; tank 3 2000; drop 0 3 1800; drain 0; look 0; room 0; drop 0 3 1801; drop 0 3 1800"
        self.assertEqual(run(text)[-5:], [[1800, 0], [3, 2000, 0, 0, 0], [1800], [-28], [1800]])

    def test_its_book_is_0_and_nothing_is_missing_then(self):
        text = station(rest="leak 0 9; hours 4; look 0; drain 0; look 0; dip 0; losses 0")
        self.assertEqual(run(text)[7:], [[0, 100000, 0, 0, 5000], [4964, 0], [0, 100000, 0, 0, 0], [0, 0, 0], [1, 0]])

    def test_a_book_below_0(self):
        text = station(fuel=19, rest="meter 0 -50; lift 0 0; pour 0 1000; look 0; hang 0; drain 0; look 0; dip 0")
        self.assertEqual(run(text)[-6:], [
            [21], [0, 100000, 0, 1, -2], [210, 21, 1], [0, 0], [0, 100000, 0, 0, 0], [0, 0, 0],
        ])

    def test_the_dips_made_before_it_stay(self):
        text = station(rest=dips(9, 8)) + "drain 0; losses 0; suspects 0; drop 0 0 100;" + dips(7)
        found = run(text + "losses 0; suspects 6; suspects 7")
        self.assertEqual([row for row in found if row == [2, 17]], [[2, 17]])
        self.assertEqual(found[-3:], [[3, 24], [1, 0], [0]])

    def test_what_leaks_and_seeps_stays(self):
        text = station(rest="leak 0 9; seep 0 4; drain 0; hours 2; drop 0 0 50; hours 2; dip 0; leak 0 0; seep 0 0")
        self.assertEqual(run(text)[-3:], [[32, 16, 18], [9], [4]])

    def test_what_was_shown_of_it_lately_stays(self):
        self.assertEqual(run(station(rest="lift 0 0; pour 0 10; hang 0; drain 0; lasts 0; order 1"))[-2:], [[0], [1, 0]])

    def test_a_tank_that_leaked_dry(self):
        text = station(fuel=50, rest="leak 0 100; seep 0 1; hours 2; drain 0; sums; look 0")
        self.assertEqual(run(text)[-3:], [[0, 2], [0, 50, 0, 0, 50, 0], [0, 100000, 0, 0, 0]])

    def test_a_spoiled_tank_beside_a_right_one(self):
        text = mixed(500, 700, 50) + "drop 1 0 5; lift 0 0; drain 1; lift 0 0; drop 1 1 40; lift 0 0; usable 0; usable 1"
        self.assertEqual(run(text)[-7:], [[-33], [705, 0], [-12], [40], [10], [500], [40]])


class Dry(unittest.TestCase):
    def test_how_much_water_it_was(self):
        text = station(rest="seep 0 7; hours 3; dry 0; dip 0; hours 2; dry 0")
        self.assertEqual(run(text)[-4:], [[21], [5000, 0, 0], [5], [14]])

    def test_no_water(self):
        self.assertEqual(last(station(rest="dry 0")), [-6])
        self.assertEqual(last(station(rest="seep 0 9; dry 0")), [-6])
        self.assertEqual(last(station(rest="seep 0 9; hours 1; dry 0; dry 0")), [-6])
        self.assertEqual(last(station(rest="seep 0 9; hours 1; drain 0; dry 0")), [-6])

    def test_no_such_tank(self):
        self.assertEqual(run(station(rest=f"seep 0 9; hours 1; dry 1; dry {FAR}"))[-2:], [[-2], [-2]])

    def test_it_leaves_the_fuel_and_the_book(self):
        text = station(rest="leak 0 3; seep 0 9; hours 1; dry 0; look 0; dip 0; sums")
        self.assertEqual(run(text)[-3:], [[0, 100000, 0, 0, 5000], [4997, 0, 3], [0, 5000, 4997, 0, 3, 0]])

    def test_it_leaves_a_spoiled_tank_spoiled(self):
        self.assertEqual(run(station(rest="drop 0 1 1; seep 0 1; hours 1; dry 0; look 0"))[-2:],
                         [[1], [0, 100000, 1, 0, 5001]])

    def test_while_somebody_pours(self):
        self.assertEqual(run(station(rest="seep 0 5; lift 0 0; hours 1; dry 0; pour 0 3"))[-2:], [[5], [3]])

    def test_each_tank_by_itself(self):
        text = station(rest="tank 1 2000; seep 0 5; seep 1 6; hours 2; dry 1; dry 1; dry 0; dry 0")
        self.assertEqual(run(text)[-4:], [[12], [-6], [10], [-6]])

    def test_there_is_room_where_it_was(self):
        text = "begin 0 90; tank 0 1000; drop 0 0 800; seep 0 60; hours 1; drop 0 0 41; dry 0; drop 0 0 101; drop 0 0 100"
        self.assertEqual(run(text)[-4:], [[-28], [60], [-28], [900]])


if __name__ == "__main__":
    unittest.main()
