"""Point 1: begin, and what comes before it."""

import unittest

from measuredpay import bills
from tests.lines import GREATEST, handed_over, last, picture, run, tell

OTHERS = (
    ("item", 1, 1, 0),
    ("change", 0, 1),
    ("measure", 0, 1),
    "value",
    "contract",
    "left",
    "kept",
    "due",
    "certify",
    ("pay", 0, 1),
    ("open", 0),
    ("split", 0),
    ("trade", 0),
    "hand",
    "close",
    "sums",
    ("look", 0),
    "state",
)

# What the nine later calls are answered behind a begin alone, in an order in which none disturbs the next.
LATER = (
    ("pay", 0, 1),
    ("pay", 0, 0),
    ("open", 0),
    ("split", 0),
    ("trade", 0),
    ("trade", 2),
    ("trade", 4),
    "sums",
    ("look", 0),
    "state",
    "close",
    "hand",
    "close",
)
LATER_TOLD = [[-2], [-2], [-2], [-2], [0, 0, 0], [0, 0, 0], [-22], [0, 0, 0], [-2], [0, 0, 0, 0], [-13], [0, 0], [0, 0]]

AMOUNTS = ("value", "contract", "left", "kept", "due")


class Begin(unittest.TestCase):
    def test_begin_answers_0_alone(self):
        self.assertEqual(run(("begin", 50, 30)), [[0]])

    def test_keep_and_most_at_their_edges(self):
        for keep, most, told in (
            (0, 0, 0),
            (200, 200, 0),
            (0, 200, 0),
            (200, 0, 0),
            (201, 0, -22),
            (0, 201, -22),
            (201, 201, -22),
            (201, 200, -22),
            (200, 201, -22),
            (GREATEST, 0, -22),
            (0, GREATEST, -22),
            (GREATEST, GREATEST, -22),
        ):
            with self.subTest(keep=keep, most=most):
                self.assertEqual(run(("begin", keep, most)), [[told]])

    def test_nothing_is_there_at_first(self):
        told = run(("begin", 50, 30), *AMOUNTS, "certify", ("change", 0, 0), ("measure", 0, 0))
        self.assertEqual(told, [[0]] + [[0, 0]] * 5 + [[-6], [-2], [-2]])
        self.assertEqual(run(("begin", 50, 30), *LATER), [[0]] + LATER_TOLD)


class BeforeBegin(unittest.TestCase):
    def test_every_other_call_is_refused(self):
        for call in OTHERS:
            with self.subTest(call=call):
                self.assertEqual(run(call), [[-11]])

    def test_behind_a_refused_begin_every_other_call_is_refused(self):
        for call in OTHERS:
            with self.subTest(call=call):
                self.assertEqual(run(("begin", 201, 0), call), [[-22], [-11]])

    def test_it_comes_ahead_of_every_other_refusal(self):
        told = run(
            ("item", 10001, 1000001, 4),
            ("change", GREATEST, GREATEST),
            ("measure", GREATEST, GREATEST),
            "certify",
            ("pay", GREATEST, 0),
            ("open", GREATEST),
            ("split", GREATEST),
            ("trade", 4),
            "close",
            ("look", GREATEST),
        )
        self.assertEqual(told, [[-11]] * 10)

    def test_what_was_refused_left_nothing(self):
        told = run(("item", 5, 5, 0), ("begin", 0, 0), "contract", ("item", 7, 1, 0), "contract")
        self.assertEqual(told, [[-11], [0], [0, 0], [0], [0, 7]])
        told = run("hand", "close", ("begin", 0, 0), "state", "hand", ("begin", 201, 0), "state")
        self.assertEqual(told, [[-11], [-11], [0], [0, 0, 0, 0], [0, 0], [-22], [0, 0, 1, 0]])

    def test_a_begin_behind_a_refused_one_is_taken(self):
        told = run(("begin", 201, 0), ("begin", 200, 0), "value")
        self.assertEqual(told, [[-22], [0], [0, 0]])


class BeginAgain(unittest.TestCase):
    BEFORE = (("begin", 100, 200), ("item", 10, 1000, 2), ("measure", 0, 5), "certify", ("measure", 0, 6))

    def test_answered_0_all_is_new(self):
        told = run(*self.BEFORE, ("begin", 0, 0), *AMOUNTS, ("measure", 0, 0), "certify")
        self.assertEqual(told[5:], [[0]] + [[0, 0]] * 5 + [[-2], [-6]])

    def test_numbers_begin_at_0_again(self):
        again = (("begin", 0, 0), ("item", 3, 7, 0), ("measure", 0, 3), "due", "certify")
        self.assertEqual(run(*self.BEFORE, *again)[5:], [[0], [0], [0], [0, 21], [0, 21]])

    def test_keep_and_most_are_the_new_ones(self):
        bill_calls = (("item", 100, 1000, 0), ("measure", 0, 100), "kept")
        self.assertEqual(last(*self.BEFORE, ("begin", 50, 200), *bill_calls), [0, 5000])
        self.assertEqual(last(*self.BEFORE, ("begin", 200, 30), *bill_calls), [0, 3000])

    def test_forty_certificates_can_be_had_again(self):
        measured = []
        for done in range(1, 41):
            measured += [("measure", 0, done), "certify"]
        line = [("begin", 0, 0), ("item", 41, 1, 0), *measured]
        told = run(*line, ("begin", 0, 0), ("item", 1, 1, 0), ("measure", 0, 1), "certify")
        self.assertEqual(told[-1], [0, 1])

    def test_answered_minus_22_all_stays(self):
        for keep, most in ((201, 0), (0, 201), (GREATEST, GREATEST)):
            told = run(*self.BEFORE, *AMOUNTS, ("begin", keep, most), *AMOUNTS)
            self.assertEqual(told[5:10], [[0, 6000], [0, 10000], [0, 4000], [0, 600], [0, 900]])
            self.assertEqual(told[10], [-22])
            self.assertEqual(told[11:], told[5:10])

    def test_it_is_neither_handed_over_nor_closed_again(self):
        bill = handed_over(*self.BEFORE, ("measure", 0, 10))
        self.assertEqual(tell(bill, "close", ("begin", 100, 200)), [[0, 5500], [0]])
        fresh = bills.Bill()
        tell(fresh, ("begin", 100, 200))
        self.assertEqual(picture(bill), picture(fresh))
        self.assertEqual((bill.handed, bill.closed), (False, False))

    def test_nothing_of_the_old_one_is_left_wherever_it_comes(self):
        paid = (("pay", 0, 4500), "certify", ("pay", 1, 1))
        handed = (*paid, ("measure", 0, 10), "hand")
        for middle in ((), paid, handed, (*handed, "close"), (*handed, "certify", "close", "certify", ("pay", 2, 2))):
            told = run(*self.BEFORE, *middle, ("begin", 100, 200), *LATER)
            with self.subTest(middle=middle):
                self.assertTrue(all(answer[0] >= 0 for answer in told[:-len(LATER)]))
                self.assertEqual(told[-len(LATER):], LATER_TOLD)

    def test_a_new_certificate_has_nothing_of_the_old_one(self):
        again = (("begin", 0, 0), ("item", 3, 7, 0), ("measure", 0, 3), "certify")
        told = run(*self.BEFORE, ("pay", 0, 4500), *again, ("open", 0), ("split", 0), ("trade", 0), ("trade", 2), "sums")
        self.assertEqual(told[-5:], [[0, 21], [0, 21, 0, 0, 0], [0, 21, 21], [0, 0, 0], [0, 21, 0]])

    def test_keeping_is_whole_again(self):
        again = (("begin", 200, 200), ("item", 10, 1, 0), ("measure", 0, 10), "kept", ("measure", 0, 9), "state")
        told = run(*self.BEFORE, ("measure", 0, 10), "hand", "close", *again)
        self.assertEqual(told[-6:], [[0], [0], [0], [0, 2], [10], [1, 0, 0, 0]])

    def test_refused_it_leaves_what_is_paid_handed_over_and_closed(self):
        asked = ("sums", ("open", 0), ("split", 0), ("trade", 2), ("look", 0), "state", "kept")
        line = (*self.BEFORE, ("pay", 0, 4), ("measure", 0, 10), "hand", "close")
        told = run(*line, *asked, ("begin", 0, 201), *asked)
        self.assertEqual(told[-8], [-22])
        self.assertEqual(told[-7:], told[-15:-8])
        self.assertEqual(told[-7:], [
            [0, 4500, 4], [0, 4496], [0, 0, 0, 4500, 0], [0, 10000, 4500], [0, 10, 1000, 10, 2], [1, 1, 1, 1], [0, 0],
        ])


if __name__ == "__main__":
    unittest.main()
