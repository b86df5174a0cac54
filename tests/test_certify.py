"""Point 2: certify, and the trades' shares of what it certifies."""

import itertools
import unittest

from measuredpay import bills
from tests.lines import bill_of, picture, run, tell

LINE = (("begin", 100, 200), ("item", 100, 1000, 0))


def certified_often(times):
    """Calls that end in so many certificates of one cent each."""
    calls = [("begin", 0, 0), ("item", 50, 1, 0)]
    for done in range(1, times + 1):
        calls += [("measure", 0, done), "certify"]
    return calls


class Certify(unittest.TestCase):
    def test_its_number_then_what_it_is_of(self):
        told = run(*LINE, ("measure", 0, 1), "certify", ("measure", 0, 3), "certify", ("measure", 0, 4), "certify")
        self.assertEqual(told[3::2], [[0, 900], [1, 1800], [2, 900]])

    def test_nothing_due(self):
        told = run(*LINE, "certify", ("measure", 0, 1), "certify", "certify", "due")
        self.assertEqual(told[2:], [[-6], [0], [0, 900], [-6], [0, 0]])

    def test_a_cent_is_enough(self):
        told = run(("begin", 0, 0), ("item", 1, 1, 0), ("measure", 0, 1), "certify")
        self.assertEqual(told[3], [0, 1])

    def test_nothing_of_it_is_paid(self):
        bill = bill_of(*LINE, ("measure", 0, 1), "certify")
        self.assertEqual([c.paid for c in bill.certificates], [0])

    def test_forty_and_one_more(self):
        told = run(*certified_often(40), ("measure", 0, 50), "due", "certify", "due")
        self.assertEqual(told[3:82:2], [[n, 1] for n in range(40)])
        self.assertEqual(told[82:], [[40], [0, 10], [-28], [0, 10]])

    def test_full_ahead_of_nothing_due(self):
        told = run(*certified_often(40), "due", "certify")
        self.assertEqual(told[-2:], [[0, 0], [-28]])

    def test_one_below_full_with_nothing_due(self):
        self.assertEqual(run(*certified_often(39), "certify")[-1], [-6])

    def test_a_refusal_changes_nothing(self):
        for calls, told in (
            ((*LINE, "certify"), [-6]),
            ((*LINE, ("measure", 0, 9), "certify", ("measure", 0, 5), "certify"), [-6]),
            ((*certified_often(40), ("measure", 0, 41), "certify"), [-28]),
        ):
            bill = bill_of(*calls[:-1])
            before = picture(bill)
            self.assertEqual(tell(bill, calls[-1]), [told])
            self.assertEqual(picture(bill), before)


class Shares(unittest.TestCase):
    def test_as_the_values_are(self):
        self.assertEqual(bills.shares(100, [1, 2, 3, 4]), [10, 20, 30, 40])
        self.assertEqual(bills.shares(90, [50, 0, 0, 50]), [45, 0, 0, 45])

    def test_of_like_rests_the_lesser_number_is_first(self):
        self.assertEqual(bills.shares(100, [1, 1, 1, 0]), [34, 33, 33, 0])
        self.assertEqual(bills.shares(101, [0, 1, 1, 1]), [0, 34, 34, 33])
        self.assertEqual(bills.shares(3, [1, 1, 1, 1]), [1, 1, 1, 0])

    def test_the_greatest_rest_is_first(self):
        self.assertEqual(bills.shares(10, [1, 2, 4, 0]), [1, 3, 6, 0])
        self.assertEqual(bills.shares(1, [1, 2, 3, 0]), [0, 0, 1, 0])
        self.assertEqual(bills.shares(2, [3, 4, 4, 0]), [0, 1, 1, 0])

    def test_they_are_the_whole_and_none_is_off_by_a_cent(self):
        for worths in itertools.product(range(5), repeat=4):
            whole = sum(worths)
            for amount in range(whole + 1 if whole else 0):
                parts = bills.shares(amount, list(worths))
                self.assertEqual(sum(parts), amount)
                for part, worth in zip(parts, worths):
                    self.assertLess(abs(part * whole - amount * worth), whole)


class Parts(unittest.TestCase):
    """What a certificate gives to each trade."""

    def parts(self, *calls):
        return [c.parts for c in bill_of(*calls).certificates]

    def test_a_trade_has_all_its_items(self):
        items = [("item", 10, 100, 1), ("item", 10, 100, 3), ("item", 10, 100, 1)]
        measured = [("measure", 0, 1), ("measure", 1, 2), ("measure", 2, 4)]
        self.assertEqual(self.parts(("begin", 100, 200), *items, *measured, "certify"), [[0, 450, 0, 180]])

    def test_three_shares_that_do_not_divide(self):
        items = [("item", 1, 100, n) for n in range(3)]
        measured = [("measure", n, 1) for n in range(3)]
        self.assertEqual(self.parts(("begin", 70, 200), *items, *measured, "certify"), [[93, 93, 93, 0]])
        self.assertEqual(self.parts(("begin", 67, 200), *items, *measured, "certify"), [[94, 93, 93, 0]])
        self.assertEqual(self.parts(("begin", 64, 200), *items, *measured, "certify"), [[94, 94, 93, 0]])

    def test_of_all_certified_less_what_it_got(self):
        items = [("item", 1000, 1, 0), ("item", 1000, 1, 1)]
        line = (("begin", 0, 0), *items, ("measure", 0, 100), "certify", ("measure", 1, 50), "certify")
        self.assertEqual(self.parts(*line), [[100, 0, 0, 0], [0, 50, 0, 0]])

    def test_a_trade_that_gets_less_than_nothing(self):
        items = [("item", 1000, 1, 0), ("item", 1000, 1, 1)]
        line = (("begin", 0, 0), *items, ("measure", 0, 100), "certify", ("measure", 0, 30), ("measure", 1, 90), "certify")
        self.assertEqual(self.parts(*line), [[100, 0, 0, 0], [-70, 90, 0, 0]])

    def test_a_later_measuring_leaves_them(self):
        line = (("begin", 0, 0), ("item", 9, 1, 0), ("item", 9, 1, 1), ("measure", 0, 9), "certify")
        self.assertEqual(self.parts(*line, ("measure", 0, 0), ("measure", 1, 9)), [[9, 0, 0, 0]])

    def test_they_are_what_it_is_of(self):
        items = [("item", 9, 333, 0), ("item", 9, 77, 1), ("item", 9, 1001, 2), ("item", 9, 7, 0)]
        bill = bill_of(("begin", 77, 133), *items)
        for step in range(30):
            tell(bill, ("measure", step % 4, step * 7 % 10), "certify")
        self.assertGreater(len(bill.certificates), 4)
        for certificate in bill.certificates:
            self.assertEqual(sum(certificate.parts), certificate.amount)


if __name__ == "__main__":
    unittest.main()
