"""What holds, a to g, over whole lines, ordinary ones and ones thrown together by a fixed seed."""

import random
import unittest

from tests.line import FAR, call, calls, flat, last, mixed, run, station, told

ORDINARY = calls("""
    begin 100 90; tank 0 5000; tank 1 2000; tank 2 1000; nozzle 0 0 0; nozzle 0 1 35; nozzle 2 2 0
    price 0 155; price 1 163; meter 0 13; meter 1 -29; drop 0 0 3000; drop 1 1 1500; leak 0 4; seep 1 9
    lift 0 2000; pour 0 90; price 0 149; lift 1 0; pour 1 301; hours 5; pour 0 90; hang 0; dip 0; pour 1 77
    hang 1; pay 0; drop 0 1 60; hours 2; dip 0; dip 1; gone 1; losses 0; losses 1; hours 3; dip 1; losses 1; dip 2
    suspects 0; dry 1; hours 14; drain 0; drop 0 0 900; lift 0 50; pour 0 1; lasts 0; lasts 1; order 200; sums; state
""")

# Refused wherever they stand in the ordinary line, whatever has begun, is lifted or is sold by then.
REFUSED = [call(text) for text in (
    "begin 10001 90", "begin 100 101", "tank 6 5000", "tank 0 999", "nozzle 0 6 5", "nozzle 0 0 1", "nozzle 0 1 0",
    "price 0 0", "price 8 100", "meter 0 51", "meter 1 -51", f"meter {FAR} 0", "drop 0 6 10", "drop 0 0 0",
    "drop 0 0 200000", "drop 6 0 10", "lift 0 1000001", "lift 8 0", "lift 2 0", "pour 0 0", "pour 1 1001",
    "pour 2 5", "pour 8 5", "hang 2", "hang 8", "pay 60", "gone 60", f"pay {FAR}", "leak 0 101", "leak 6 1",
    "seep 1 101", "seep 6 1", "hours 0", "hours 501", "dip 6", "losses 6", "drain 6", "dry 0", "dry 6", "room 6",
    "usable 6", "could 8", "lasts 2", "lasts 6", "sale 60", "look 6",
)]

# All that can be seen of up to 3 tanks, 4 nozzles and 12 sales.
LOOKS = [[number] for number in (24, 26, 27, 29, 30)]
LOOKS += [[number, t] for t in range(3) for number in (15, 19, 20, 22, 28)]
LOOKS += [[21, z] for z in range(4)] + [[25, s] for s in range(12)]
LOOKS += [[16, n] for n in (0, 5)] + [[23, n] for n in (30, 300, FAR)]

LOOKING = {row[0] for row in LOOKS}

MAY_REFUSE = {
    0: (-22,), 1: (-22, -28), 2: (-2, -22, -28), 3: (-2, -22), 4: (-2, -22, -16), 5: (-2, -22, -28),
    6: (-2, -22, -16, -6, -33, -12), 7: (-2, -22, -13), 8: (-2, -13, -28), 9: (-2, -17), 10: (-2, -17),
    11: (-2, -22), 12: (-2, -22), 13: (-22,), 14: (-2,), 15: (-2,), 16: (), 17: (-2, -16), 18: (-2, -6), 19: (-2,),
    20: (-2,), 21: (-2,), 22: (-2, -33), 23: (), 24: (), 25: (-2,), 26: (), 27: (), 28: (-2,), 29: (), 30: (),
}

# How many numbers an answer has that is no refusal, where that isn't 1; a count says how many follow it.
SIZES = {8: 3, 14: 3, 15: 2, 17: 2, 25: 5, 27: 3, 28: 5, 29: 6, 30: 5}
COUNTED = (16, 23, 24, 26)


def seen(rows):
    """All that can be seen behind these calls."""
    return told(rows + LOOKS)[len(rows):]


def seen_along(rows):
    """All that can be seen behind each of the calls, from the first on."""
    return [seen(rows[:place]) for place in range(1, len(rows) + 1)]


def of(sight, *look):
    """What one look of a sight answered."""
    return sight[LOOKS.index(list(look))]


def thrown(source, meters, leaks, drains=False, steps=180):
    """A line of calls of which most can be carried out; what may be off is told."""
    rows = calls("begin 50 95; tank 0 5000; tank 1 4000; nozzle 0 0 0; nozzle 0 1 40; nozzle 1 0 7; nozzle 1 1 0")
    rows += [[3, z, source.randint(1, 300)] for z in range(4)]
    if meters:
        rows += [[4, z, source.randint(-50, 50)] for z in range(4)]
    for step in range(steps):
        pick = source.randrange(11 if drains else 10)
        z = source.randrange(4)
        t = source.randrange(2)
        if pick == 0:
            rows.append([5, t, t, source.randint(1, 2500)])
        elif pick == 1:
            rows.append([6, z, source.choice((0, 0, 1, 50, 900))])
        elif pick <= 5:
            rows.append([7, z, source.choice((1, 2, 7, 40, 333))])
        elif pick == 6:
            rows.append([8, z])
        elif pick == 7:
            rows.append([source.choice((9, 10)), source.randrange(12)])
        elif pick == 8:
            rows.append(source.choice(([14, t], [15, t], [13, source.randint(1, 9)], [12, t, source.randint(0, 20)])))
        elif pick == 10:
            # Another kind now and then, so that a drain finds a spoiled tank too.
            rows.append(source.choice(([17, t], [17, t], [18, t], [5, t, 5, source.randint(1, 99)])))
        elif leaks:
            rows.append([11, t, source.randint(0, 20)])
    return rows


def any_call(source):
    """A call whose arguments are near a bound, or far out of range."""
    sizes = (2, 2, 3, 2, 2, 3, 2, 2, 1, 1, 1, 2, 2, 1, 1, 1, 1, 1, 1, 1, 1, 1, 1, 1, 0, 1, 0, 0, 1, 0, 0)
    number = source.choice(range(1, 31))
    edges = (0, 1, 2, 5, 6, 8, 50, 99, 100, 101, 500, 1000, 1001, 10000, 10001, 200000, 1000000, FAR)
    given = [source.choice(edges) for place in range(sizes[number])]
    if number == 4:
        given[1] = source.choice((-2147483648, -51, -50, -1, 0, 50, 51, 2147483647))
    return [number] + given


class Refusals(unittest.TestCase):
    def test_what_is_refused_changes_nothing(self):
        plain = told(ORDINARY)
        self.assertEqual([row for row in plain if row[0] < 0], [])
        for place in range(1, len(ORDINARY) + 1):
            before = seen(ORDINARY[:place])
            for refused in REFUSED:
                found = told(ORDINARY[:place] + [refused] + ORDINARY[place:])
                self.assertEqual(len(found[place]), 1)
                self.assertLess(found[place][0], 0, (place, refused))
                self.assertEqual(found[:place] + found[place + 1:], plain, (place, refused))
                self.assertEqual(seen(ORDINARY[:place] + [refused]), before, (place, refused))

    def test_looking_changes_nothing(self):
        plain = told(ORDINARY)
        for place in range(1, len(ORDINARY) + 1):
            found = told(ORDINARY[:place] + LOOKS + ORDINARY[place:])
            self.assertEqual(found[:place] + found[place + len(LOOKS):], plain)
            for look in LOOKS:
                self.assertEqual(told(ORDINARY[:place] + [look, look] + LOOKS)[place + 2:], seen(ORDINARY[:place]), look)

    def test_refused_or_looking_in_lines_thrown_together(self):
        source = random.Random(8)
        for line in range(12):
            rows = thrown(source, meters=True, leaks=True, drains=True, steps=70)
            rows = rows[:15] + flat([[row, any_call(source)] for row in rows[15:]])
            sights = seen_along(rows)
            for place, answer in enumerate(told(rows)):
                if answer[0] < 0 or rows[place][0] in LOOKING:
                    self.assertEqual(sights[place], sights[place - 1], rows[place])

    def test_only_the_refusals_that_are_told(self):
        source = random.Random(1)
        for line in range(300):
            rows = calls("begin 0 100; tank 0 5000; tank 1 1000; nozzle 0 0 0; nozzle 0 1 50; drop 0 0 900; price 0 50")
            rows += [any_call(source) for place in range(200)]
            for row, answer in zip(rows, told(rows)):
                if answer[0] < 0:
                    self.assertEqual(len(answer), 1)
                    self.assertIn(answer[0], MAY_REFUSE[row[0]])
                elif row[0] in COUNTED:
                    self.assertEqual(len(answer), 1 + answer[0], row)
                else:
                    self.assertEqual(len(answer), SIZES.get(row[0], 1), row)


class Volumes(unittest.TestCase):
    def test_a_right_meter_and_no_leak_nothing_is_missing(self):
        source = random.Random(2)
        for line in range(60):
            rows = thrown(source, meters=False, leaks=False)
            for row, answer in zip(rows, told(rows)):
                if row[0] == 14:
                    self.assertEqual(answer[2], 0)
                if row[0] == 15:
                    self.assertEqual(answer[1], 0)

    def test_every_drop_is_somewhere(self):
        source = random.Random(3)
        for line in range(25):
            rows = thrown(source, meters=True, leaks=True, drains=True)
            found = told(rows)
            came = 0
            drained = 0
            before = [0] * 6
            for place, sight in enumerate(seen_along(rows)):
                if found[place][0] >= 0:
                    came += rows[place][3] if rows[place][0] == 5 else 0
                    drained += found[place][0] if rows[place][0] == 17 else 0
                sums = of(sight, 29)
                self.assertEqual((sums[0], sums[1], sums[5]), (0, came, drained))
                self.assertEqual(sums[1], sum(sums[2:]))
                for at in (1, 3, 4, 5):
                    self.assertGreaterEqual(sums[at], before[at])
                before = sums

    def test_what_was_really_poured_and_leaked(self):
        source = random.Random(9)
        for line in range(25):
            rows = thrown(source, meters=True, leaks=True, drains=True)
            found = told(rows)
            before = [0] * 6
            for place, sight in enumerate(seen_along(rows)):
                sums = of(sight, 29)
                if rows[place][0] != 7 or found[place][0] <= 0:
                    self.assertEqual(sums[3], before[3], rows[place])
                else:
                    # A meter is off by 50 thousandths at most, and roundings by less than 1.
                    self.assertLess(abs(sums[3] - before[3] - found[place][0]), found[place][0] // 20 + 2)
                if rows[place][0] != 13:
                    self.assertEqual(sums[4], before[4], rows[place])
                before = sums

    def test_all_looks_tell_of_the_same_tanks(self):
        source = random.Random(10)
        for line in range(12):
            rows = thrown(source, meters=True, leaks=True, drains=True)
            for place, sight in enumerate(seen_along(rows)):
                tanks = of(sight, 30)[2]
                fuel = 0
                for t, most in list(enumerate((5000, 4000)))[:tanks]:
                    dipped = told(rows[:place + 1] + [[14, t]])[-1]
                    fuel += dipped[0]
                    look = of(sight, 28, t)
                    self.assertEqual(look[:2], [t, most])
                    self.assertEqual(look[4], dipped[0] + dipped[2])
                    self.assertEqual(of(sight, 20, t), [0 if look[2] == 1 else max(0, dipped[0] - 50)])
                    self.assertEqual(of(sight, 19, t), [max(0, most * 95 // 100 - dipped[0] - dipped[1])])
                self.assertEqual(of(sight, 29)[2], fuel)

    def test_what_there_is_room_for_fits_just(self):
        source = random.Random(11)
        for line in range(40):
            rows = thrown(source, meters=True, leaks=True, drains=True)
            for t in range(2):
                room = told(rows + [[19, t]])[-1][0]
                if room > 0:
                    self.assertEqual(told(rows + [[5, t, t, room], [19, t]])[-1], [0])
                self.assertEqual(told(rows + [[5, t, t, room + 1]])[-1], [-28])

    def test_what_is_missing_is_what_leaked_or_came_too_much(self):
        text = station(rest="meter 0 30; leak 0 7; lift 0 0; pour 0 1000; hours 11; pour 0 500; hang 0; dip 0")
        self.assertEqual(last(text), [5000 - 1545 - 77, 0, 45 + 77])

    def test_no_tank_is_fuller_than_it_can_be_or_poured_below_what_stays(self):
        source = random.Random(4)
        for line in range(60):
            rows = thrown(source, meters=True, leaks=False)[:80]
            # A dip after each call shows the tanks all along, and changes their books alone.
            found = told(flat([[row, [14, 0], [14, 1]] for row in rows]))
            before = [0, 0]
            for at in range(0, len(found), 3):
                for t, most in ((0, 5000), (1, 4000)):
                    state = found[at + 1 + t]
                    if state[0] < 0:
                        continue
                    self.assertLessEqual(state[0] + state[1], most)
                    if state[0] < before[t]:
                        self.assertGreaterEqual(state[0], 50)
                    before[t] = state[0]


class Customers(unittest.TestCase):
    def test_nobody_pours_more_than_they_paid_for_ahead(self):
        source = random.Random(5)
        for line in range(60):
            rows = thrown(source, meters=True, leaks=True)
            limits = {}
            for row, answer in zip(rows, told(rows)):
                if row[0] == 6 and answer[0] >= 0:
                    limits[row[1]] = row[2]
                if row[0] == 8 and answer[0] >= 0 and limits[row[1]] > 0:
                    self.assertLessEqual(answer[0], limits[row[1]])

    def test_could_is_what_a_pour_of_1000_comes_to(self):
        source = random.Random(12)
        for line in range(60):
            rows = thrown(source, meters=True, leaks=True, drains=True)
            for z in range(4):
                could = told(rows + [[21, z]])[-1]
                poured = told(rows + [[7, z, 1000]])[-1]
                if poured != [-13]:
                    self.assertEqual(could, poured)
                    continue
                lifted = told(rows + [[6, z, 0], [7, z, 1000]])
                self.assertEqual(could, [0] if lifted[-2][0] < 0 else lifted[-1])

    def test_each_sale_is_settled_once(self):
        source = random.Random(6)
        for line in range(60):
            rows = thrown(source, meters=True, leaks=True)
            due = []
            settled = {}
            for row, answer in zip(rows, told(rows)):
                if row[0] == 8 and answer[0] >= 0 and answer[1] > 0:
                    due.append(answer[0])
                    self.assertEqual(answer[2], len(due))
                if row[0] in (9, 10):
                    s = row[1]
                    self.assertEqual(answer, [-2] if s >= len(due) else [-17] if s in settled else [due[s]])
                    if s < len(due):
                        settled[s] = True

    def test_each_sale_is_paid_open_or_driven_off_in_all_looks_alike(self):
        source = random.Random(13)
        for line in range(12):
            rows = thrown(source, meters=True, leaks=True)
            found = told(rows)
            hour = 0
            sales = []
            for place, sight in enumerate(seen_along(rows)):
                row = rows[place]
                if row[0] == 13:
                    hour = found[place][0]
                if row[0] == 8 and found[place][0] >= 0 and found[place][1] > 0:
                    sales.append([0, row[1], found[place][1], found[place][0], hour])
                if row[0] in (9, 10) and found[place][0] >= 0:
                    sales[row[1]][0] = row[0] - 8
                self.check_sales(sight, sales, hour)

    def check_sales(self, sight, sales, hour):
        unpaid = [s for s, sale in enumerate(sales) if sale[0] == 0]
        nozzles = of(sight, 30)[3]
        self.assertEqual(of(sight, 24), [len(unpaid)] + unpaid)
        self.assertEqual([of(sight, 25, s) for s in range(12)], (sales + [[-2]] * 12)[:12])
        self.assertEqual(of(sight, 26), [nozzles] + [sum(sale[2] for sale in sales if sale[1] == z) for z in range(nozzles)])
        self.assertEqual(of(sight, 27), [sum(sale[3] for sale in sales if sale[0] == status) for status in (1, 0, 2)])
        self.assertEqual((of(sight, 30)[1], of(sight, 30)[4]), (hour, len(sales)))


class Lasting(unittest.TestCase):
    NOZZLES = ((0, 0, 0), (0, 1, 40), (1, 0, 7), (1, 1, 0))

    def test_by_what_was_shown_in_this_hour_and_the_23_before(self):
        source = random.Random(14)
        for line in range(12):
            rows = thrown(source, meters=True, leaks=True, drains=True)
            found = told(rows)
            hour = 0
            shown = [0] * 4
            booked = []
            for place, sight in enumerate(seen_along(rows)):
                row = rows[place]
                if row[0] == 13:
                    hour = found[place][0]
                if row[0] == 8 and found[place][0] >= 0:
                    shown[row[1]] = 0
                if row[0] == 7 and found[place][0] > 0:
                    first, other, part = self.NOZZLES[row[1]]
                    now = shown[row[1]] + found[place][0]
                    others = now * part // 100 - shown[row[1]] * part // 100
                    booked += [(hour, other, others), (hour, first, found[place][0] - others)]
                    shown[row[1]] = now
                # From here on both tanks are there.
                if place >= 2:
                    self.check_lasting(sight, hour, booked)

    def check_lasting(self, sight, hour, booked):
        lasting = {}
        for t in range(2):
            lately = sum(volume for at, tank, volume in booked if tank == t and hour - 24 < at)
            if lately > 0:
                lasting[t] = of(sight, 20, t)[0] * 24 // lately
            self.assertEqual(of(sight, 22, t), [lasting.get(t, -33)])
        for n in (30, 300, FAR):
            soon = [t for t in lasting if lasting[t] < n]
            self.assertEqual(of(sight, 23, n), [len(soon)] + soon)


class Pieces(unittest.TestCase):
    def poured(self, start, pieces):
        rows = calls(start + "lift 0 0;" + "".join(f"pour 0 {n};" for n in pieces))
        self.assertEqual([row[0] for row in told(rows)[-len(pieces):]], list(pieces))
        return seen(rows) + seen(rows + calls("hang 0; dip 0; dip 1"))

    def test_pouring_in_pieces_comes_to_the_same_as_at_once(self):
        for part in (1, 33, 50, 99):
            for meter in (-50, -7, 0, 3, 50):
                start = mixed(5000, 5000, part, meter=meter)
                once = self.poured(start, (100,))
                for pieces in ((1,) * 100, (99, 1), (1, 99), (33, 33, 34), (7,) * 14 + (2,)):
                    self.assertEqual(self.poured(start, pieces), once, (part, meter, pieces))

    def test_pouring_of_one_tank_in_pieces(self):
        for meter in (-50, -1, 0, 1, 50):
            start = station(price=37, rest=f"tank 1 1000; meter 0 {meter}")
            once = self.poured(start, (100,))
            for pieces in ((1,) * 100, (50, 50), (3,) * 33 + (1,)):
                self.assertEqual(self.poured(start, pieces), once, (meter, pieces))

    def test_up_to_the_limit_in_pieces(self):
        for limit in (1, 10, 99, 100, 101):
            once = last(station(price=37, rest=f"lift 0 {limit}; pour 0 200; hang 0"))
            for piece in (1, 2, 7, 150):
                text = station(price=37, rest=f"lift 0 {limit};" + f"pour 0 {piece};" * (200 // piece + 1) + "hang 0")
                self.assertEqual(last(text), once, (limit, piece))

    def test_down_to_what_stays_in_pieces(self):
        for meter in (0, 3, 50):
            start = station(low=4900, rest=f"meter 0 {meter}; lift 0 0")
            once = run(start + "pour 0 200; hang 0; dip 0")[-2:]
            for piece in (1, 2, 7, 150):
                self.assertEqual(run(start + f"pour 0 {piece};" * (200 // piece + 1) + "hang 0; dip 0")[-2:], once)

    def test_hours_in_pieces_come_to_the_same_as_at_once(self):
        source = random.Random(7)
        for line in range(40):
            fuel, leak, seep = source.randint(1, 950), source.randint(0, 100), source.randint(0, 100)
            start = f"begin 0 100; tank 0 1000; drop 0 0 {fuel}; leak 0 {leak}; seep 0 {seep};"
            total = source.randint(2, 60)
            part = source.randint(1, total - 1)
            once = run(start + f"hours {total}; dip 0; sums; look 0; room 0; state")[-5:]
            self.assertEqual(run(start + f"hours {part}; hours {total - part}; dip 0; sums; look 0; room 0; state")[-5:], once)
            self.assertEqual(run(start + "hours 1;" * total + "dip 0; sums; look 0; room 0; state")[-5:], once)

    def test_hours_in_pieces_since_something_was_shown(self):
        start = mixed(900, 700, 30) + "leak 0 3; seep 1 5; lift 0 0; pour 0 77; hours 2; pour 0 50; hang 0;"
        for total in (20, 21, 22, 23, 24, 25, 40):
            once = seen(calls(start + f"hours {total}"))
            self.assertEqual(seen(calls(start + "hours 1;" * total)), once)
            self.assertEqual(seen(calls(start + f"hours 7; hours {total - 7}")), once)


if __name__ == "__main__":
    unittest.main()
