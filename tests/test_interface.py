"""The interface: how answers are laid out, and what holds around a begin."""

import unittest

from fuelstation.station import answers
from tests.line import FAR, calls, flat, last, run, station

OTHERS = [
    "tank 0 1000", "nozzle 0 0 0", "price 0 1", "meter 0 -1", "drop 0 0 1", "lift 0 0", "pour 0 1", "hang 0",
    "pay 0", "gone 0", "leak 0 1", "seep 0 1", "hours 1", "dip 0", "losses 0", "suspects 0", "drain 0", "dry 0",
    "room 0", "usable 0", "could 0", "lasts 0", "order 1", "open", "sale 0", "sold", "money", "look 0", "sums", "state",
]

# What these answer where there is nothing, if it isn't -2.
OF_NOTHING = {
    "tank 0 1000": [0], "hours 1": [1], "suspects 0": [0], "order 1": [0], "open": [0], "sold": [0],
    "money": [0, 0, 0], "sums": [0, 0, 0, 0, 0, 0], "state": [0, 0, 0, 0, 0],
}

# The same calls, their arguments far out of range.
FAR_OUT = [
    f"begin {FAR} {FAR}", f"tank {FAR} {FAR}", f"nozzle {FAR} {FAR} {FAR}", f"price {FAR} {FAR}",
    f"meter {FAR} 2147483647", f"drop {FAR} {FAR} {FAR}", f"lift {FAR} {FAR}", f"pour {FAR} {FAR}", f"hang {FAR}",
    f"pay {FAR}", f"gone {FAR}", f"leak {FAR} {FAR}", f"seep {FAR} {FAR}", f"hours {FAR}", f"dip {FAR}",
    f"losses {FAR}", f"drain {FAR}", f"dry {FAR}", f"room {FAR}", f"usable {FAR}", f"could {FAR}", f"lasts {FAR}",
    f"sale {FAR}", f"look {FAR}",
]

BUSY = station(rest="""
    tank 1 2000; nozzle 0 1 30; drop 1 1 700; price 1 55; meter 1 -20; lift 0 0; pour 0 77; lift 1 300; pour 1 500
    leak 0 3; seep 1 4; hours 9; hang 0; hang 1; pay 0; gone 1; pay 1; dip 0; dip 1; losses 0; dip 7; begin 10001 50
""")

# All that can be seen of the busy line's two tanks, two nozzles and two sales.
SIGHT = """
    losses 0; losses 1; suspects 0; room 0; room 1; usable 0; usable 1; could 0; could 1; lasts 0; lasts 1
    order 4294967295; open; sale 0; sale 1; sold; money; look 0; look 1; sums; state;
"""


class Layout(unittest.TestCase):
    def test_each_answer_stands_behind_its_length(self):
        line = [0, 0, 100, 1, 0, 1000, 5, 0, 0, 400, 14, 0, 15, 0, 14, 1, 13, 7]
        self.assertEqual(answers(line), [1, 0, 1, 0, 1, 400, 3, 400, 0, 0, 2, 1, 0, 1, -2, 1, 7])

    def test_sale_answers(self):
        line = flat(calls(station(rest="lift 0 0; pour 0 20; hang 0; pay 0")))
        self.assertEqual(answers(line)[-10:], [1, 100, 1, 20, 3, 200, 20, 1, 1, 200])

    def test_counts_stand_where_the_words_tell_them_alone(self):
        line = flat(calls(station(rest="lift 0 0; pour 0 100; hang 0; order 9999; open; sale 0; sold; money; look 0")))
        self.assertEqual(answers(line)[-25:], [
            2, 1, 0, 2, 1, 0, 5, 0, 0, 100, 1000, 0, 2, 1, 100, 3, 0, 1000, 0, 5, 0, 100000, 0, 0, 4900,
        ])
        line = [0, 0, 100, 1, 0, 1000, 16, 0, 23, 0, 24, 26, 27, 29, 30, 17, 0]
        self.assertEqual(answers(line), [
            1, 0, 1, 0, 1, 0, 1, 0, 1, 0, 1, 0, 3, 0, 0, 0, 6, 0, 0, 0, 0, 0, 0, 5, 0, 0, 1, 0, 0, 2, 0, 0,
        ])

    def test_refusal_stands_alone(self):
        self.assertEqual(answers([0, 0, 100, 8, 0]), [1, 0, 1, -2])
        self.assertEqual(answers([0, 0, 49]), [1, -22])
        self.assertEqual(answers([0, 0, 100, 28, 0, 25, 0, 17, 0, 22, 0]), [1, 0] + [1, -2] * 4)

    def test_every_call_far_out_of_range(self):
        for text in FAR_OUT:
            answer = [-22] if text.split()[0] in ("begin", "tank", "hours") else [-2]
            self.assertEqual(last(BUSY + text), answer, text)
            self.assertEqual(run(BUSY + text + ";" + SIGHT)[-21:], run(BUSY + SIGHT)[-21:], text)

    def test_only_whole_numbers_are_answered(self):
        told = answers(flat(calls(BUSY + SIGHT + "lift 0 0; drop 1 0 1;" + SIGHT + "drain 1; dry 1; room 9")))
        self.assertIs(type(told), list)
        self.assertEqual({type(number) for number in told}, {int})

    def test_the_list_handed_in_is_not_changed(self):
        line = flat(calls(BUSY + SIGHT + "drain 0; dry 1"))
        kept = list(line)
        answers(line)
        self.assertEqual(line, kept)

    def test_nothing_is_kept_from_one_time_to_the_next(self):
        line = flat(calls(BUSY + SIGHT + "drain 0; dry 1"))
        once = answers(line)
        self.assertEqual(answers([14, 0]), [1, -11])
        self.assertEqual(answers([0, 0, 100, 29, 30]), [1, 0, 6, 0, 0, 0, 0, 0, 0, 5, 0, 0, 0, 0, 0])
        self.assertEqual(answers(line), once)

    def test_what_is_given_back_is_new_each_time(self):
        line = flat(calls(BUSY))
        once = answers(line)
        kept = list(once)
        once.clear()
        self.assertEqual(answers(line), kept)

    def test_a_line_of_256_calls(self):
        self.assertEqual(last("begin 0 100; tank 0 1000;" + "hours 500;" * 254), [127000])
        self.assertEqual(last(station(rest="lift 0 0;" + "pour 0 2;" * 249 + "sums")), [0, 5000, 4502, 498, 0, 0])
        self.assertEqual(len(calls(station(rest="lift 0 0;" + "pour 0 2;" * 249 + "sums"))), 256)

    def test_256_calls_with_the_longest_answers(self):
        sold = station(price=10, rest="nozzle 0 0 0;" * 7 + "lift 0 0; pour 0 1; hang 0;" * 60)
        found = run(sold + "open; sold;" * 32)
        self.assertEqual(len(found), 256)
        self.assertEqual(found[192:], [[60] + list(range(60)), [8, 60] + [0] * 7] * 32)


class NotBegun(unittest.TestCase):
    def test_every_other_call_before_a_begin(self):
        for other in OTHERS:
            self.assertEqual(run(other), [[-11]], other)

    def test_every_other_call_far_out_of_range_before_a_begin(self):
        for text in FAR_OUT[1:] + [f"suspects {FAR}", f"order {FAR}"]:
            self.assertEqual(run(text), [[-11]], text)

    def test_all_in_one_line_before_a_begin(self):
        self.assertEqual(run("; ".join(OTHERS) + "; begin 0 100; state"), [[-11]] * 30 + [[0], [0, 0, 0, 0, 0]])

    def test_not_begun_is_told_ahead_of_any_other_refusal(self):
        text = f"tank 9 {FAR}; nozzle {FAR} {FAR} {FAR}; pour {FAR} 0; hours 0; leak 0 101; meter 0 -2147483648"
        self.assertEqual(run(text), [[-11]] * 6)

    def test_every_other_call_after_a_refused_begin(self):
        for refused in ("begin 10001 100", "begin 0 49", "begin 0 101"):
            for other in OTHERS:
                self.assertEqual(run(f"{refused}; {other}"), [[-22], [-11]], other)

    def test_what_was_told_before_the_begin_left_nothing(self):
        self.assertEqual(run("tank 0 1000; hours 5; begin 0 100; dip 0; hours 1"), [[-11], [-11], [0], [-2], [1]])


class BeginAgain(unittest.TestCase):
    def test_there_is_nothing(self):
        for other in OTHERS:
            self.assertEqual(last(f"begin 0 100; {other}"), OF_NOTHING.get(other, [-2]), other)
            self.assertEqual(last(f"{BUSY} lift 0 0; begin 0 100; {other}"), OF_NOTHING.get(other, [-2]), other)

    def test_it_is_hour_0(self):
        self.assertEqual(last(f"{BUSY} begin 0 100; hours 3"), [3])

    def test_numbers_start_at_0(self):
        fresh = station(rest="tank 1 2000; nozzle 1 1 0;" + SIGHT + "lift 0 0; pour 0 10; hang 0; dip 0; pay 0;" + SIGHT)
        self.assertEqual(run(BUSY + fresh)[-len(run(fresh)):], run(fresh))

    def test_low_and_high_are_the_new_ones(self):
        text = "begin 10000 50; begin 0 100; tank 0 1000; drop 0 0 1000; nozzle 0 0 0; price 0 1; lift 0 0; pour 0 1000"
        self.assertEqual(last(text), [1000])

    def test_a_refused_begin_changes_nothing(self):
        # Tank 0 had 5000; nozzle 0 drew 77, nozzle 1 drew 37 (38 by the book), ten hours leaked 30.
        for refused in ("begin 10001 60", "begin 5 49", f"begin {FAR} {FAR}"):
            found = run(BUSY + refused + "; hours 1; dip 0; losses 0; tank 0 1000; drop 2 0 1000")
            self.assertEqual(found[-6:], [[-22], [10], [4856, 0, 3], [2, 29], [2], [1000]])
            self.assertEqual(run(BUSY + refused + ";" + SIGHT)[-21:], run(BUSY + SIGHT)[-21:])


if __name__ == "__main__":
    unittest.main()
