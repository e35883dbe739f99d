"""The interface: how answers are laid out, and what holds around a begin."""

import unittest

from fuelstation.station import answers
from tests.line import FAR, calls, flat, last, run, station

OTHERS = [
    "tank 0 1000", "nozzle 0 0 0", "price 0 1", "meter 0 -1", "drop 0 0 1", "lift 0 0", "pour 0 1", "hang 0",
    "pay 0", "gone 0", "leak 0 1", "seep 0 1", "hours 1", "dip 0", "losses 0",
]

BUSY = station(rest="""
    tank 1 2000; nozzle 0 1 30; drop 1 1 700; price 1 55; meter 1 -20; lift 0 0; pour 0 77; lift 1 300; pour 1 500
    leak 0 3; seep 1 4; hours 9; hang 0; hang 1; pay 0; gone 1; pay 1; dip 0; dip 1; losses 0; dip 7; begin 10001 50
""")


class Layout(unittest.TestCase):
    def test_each_answer_stands_behind_its_length(self):
        line = [0, 0, 100, 1, 0, 1000, 5, 0, 0, 400, 14, 0, 15, 0, 14, 1, 13, 7]
        self.assertEqual(answers(line), [1, 0, 1, 0, 1, 400, 3, 400, 0, 0, 2, 1, 0, 1, -2, 1, 7])

    def test_sale_answers(self):
        line = flat(calls(station(rest="lift 0 0; pour 0 20; hang 0; pay 0")))
        self.assertEqual(answers(line)[-10:], [1, 100, 1, 20, 3, 200, 20, 1, 1, 200])

    def test_refusal_stands_alone(self):
        self.assertEqual(answers([0, 0, 100, 8, 0]), [1, 0, 1, -2])
        self.assertEqual(answers([0, 0, 49]), [1, -22])

    def test_only_whole_numbers_are_answered(self):
        told = answers(flat(calls(BUSY)))
        self.assertIs(type(told), list)
        self.assertEqual({type(number) for number in told}, {int})

    def test_the_list_handed_in_is_not_changed(self):
        line = flat(calls(BUSY))
        kept = list(line)
        answers(line)
        self.assertEqual(line, kept)

    def test_nothing_is_kept_from_one_time_to_the_next(self):
        line = flat(calls(BUSY))
        once = answers(line)
        self.assertEqual(answers([14, 0]), [1, -11])
        self.assertEqual(answers(line), once)

    def test_what_is_given_back_is_new_each_time(self):
        line = flat(calls(BUSY))
        once = answers(line)
        kept = list(once)
        once.clear()
        self.assertEqual(answers(line), kept)

    def test_a_line_of_256_calls(self):
        self.assertEqual(last("begin 0 100; tank 0 1000;" + "hours 500;" * 254), [127000])


class NotBegun(unittest.TestCase):
    def test_every_other_call_before_a_begin(self):
        for other in OTHERS:
            self.assertEqual(run(other), [[-11]], other)

    def test_later_stages_calls_before_a_begin(self):
        line = [30, 29, 28, 0, 27, 26, 25, 0, 24, 23, 9, 22, 0, 21, 0, 20, 0, 19, 0, 18, 0, 17, 0, 16, 1]
        self.assertEqual(answers(line), [1, -11] * 15)

    def test_not_begun_is_told_ahead_of_any_other_refusal(self):
        text = f"tank 9 {FAR}; nozzle {FAR} {FAR} {FAR}; pour {FAR} 0; hours 0; leak 0 101; meter 0 -2147483648"
        self.assertEqual(run(text), [[-11]] * 6)

    def test_every_other_call_after_a_refused_begin(self):
        for refused in ("begin 10001 100", "begin 0 49", "begin 0 101"):
            for other in OTHERS:
                self.assertEqual(run(f"{refused}; {other}"), [[-22], [-11]], other)

    def test_what_was_told_before_the_begin_left_nothing(self):
        self.assertEqual(run("tank 0 1000; hours 5; begin 0 100; dip 0; hours 1"), [[-11], [-11], [0], [-2], [1]])


class BeginAgain(unittest.TestCase):
    def test_there_is_nothing(self):
        for other in OTHERS[1:12] + OTHERS[13:]:
            self.assertEqual(last(f"{BUSY} begin 0 100; {other}"), [-2], other)

    def test_it_is_hour_0(self):
        self.assertEqual(last(f"{BUSY} begin 0 100; hours 3"), [3])

    def test_numbers_start_at_0(self):
        fresh = station(rest="lift 0 0; pour 0 10; hang 0; dip 0; losses 0; pay 0")
        self.assertEqual(run(BUSY + fresh)[-len(run(fresh)):], run(fresh))

    def test_low_and_high_are_the_new_ones(self):
        text = "begin 10000 50; begin 0 100; tank 0 1000; drop 0 0 1000; nozzle 0 0 0; price 0 1; lift 0 0; pour 0 1000"
        self.assertEqual(last(text), [1000])

    def test_a_refused_begin_changes_nothing(self):
        # Tank 0 had 5000; nozzle 0 drew 77, nozzle 1 drew 37 (38 by the book), ten hours leaked 30.
        for refused in ("begin 10001 60", "begin 5 49", f"begin {FAR} {FAR}"):
            found = run(BUSY + refused + "; hours 1; dip 0; losses 0; tank 0 1000; drop 2 0 1000")
            self.assertEqual(found[-6:], [[-22], [10], [4856, 0, 3], [2, 29], [2], [1000]])


if __name__ == "__main__":
    unittest.main()
