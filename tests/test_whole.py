"""What holds over the whole program, from begin till a bill is closed and paid."""

import itertools
import unittest

from tests.lines import bill_of, drawn_call, numbers_below, run, tell


def told_of(bill, *call):
    """What one call answers behind its first number."""
    return tell(bill, call)[0][1:]


def drawn_bills(times, steps):
    """Bills that calls of all sorts were made on, and what each last call was answered, step by step."""
    for seed in range(times):
        draw = numbers_below(seed)
        bill = bill_of(("begin", draw(201), draw(201)))
        for step in range(steps):
            call = drawn_call(draw)
            yield bill, call, tell(bill, call)[0]


class WholeBill(unittest.TestCase):
    def test_from_begin_till_closed_and_paid(self):
        found = run(
            ("begin", 100, 60), "state", "sums",
            ("item", 10, 1000, 0), ("item", 5, 333, 1), ("item", 7, 11, 3), "state", "contract",
            ("measure", 0, 4), ("measure", 1, 1), "value", "kept", "certify", ("split", 0), "state", "sums",
            ("pay", 0, 2000), "sums", ("pay", 0, 1900), "sums",
            ("measure", 0, 10), ("measure", 1, 5), ("measure", 2, 7), "value", "kept", "certify", ("split", 1), "sums",
            ("pay", 1, 7000), "hand", "state", "certify", ("split", 2), "sums", ("pay", 2, 352),
            "close", "certify", ("split", 3), "state", "sums", ("pay", 3, 352), ("pay", 1, 138), "sums",
            "due", "left", "certify", ("trade", 0), ("trade", 1), ("trade", 2), ("trade", 3),
        )
        self.assertEqual(found, [
            [0], [0, 0, 0, 0], [0, 0, 0],
            [0], [1], [2], [3, 0, 0, 0], [0, 11742],
            [0], [0], [0, 4333], [0, 433], [0, 3900], [0, 3600, 300, 0, 0], [3, 1, 0, 0], [0, 3900, 0],
            [0, 1900], [0, 3900, 2000], [0, 0], [0, 3900, 3900],
            [4], [1], [0], [0, 11742], [0, 704], [1, 7138], [0, 5801, 1265, 0, 72], [0, 11038, 3900],
            [0, 138], [0, 352], [3, 2, 1, 0], [2, 352], [0, 299, 50, 0, 3], [0, 11390, 10900], [0, 0],
            [0, 352], [3, 352], [0, 300, 50, 0, 2], [3, 4, 1, 1], [0, 11742, 11252], [0, 0], [0, 0], [0, 11742, 11742],
            [0, 0], [0, 0], [-6], [0, 10000, 10000], [0, 1665, 1665], [0, 0, 0], [0, 77, 77],
        ])

    def test_the_greatest_bill(self):
        whole = 100000000000
        items = [("item", 10000, 1000000, n % 4) for n in range(10)]
        measured = [("measure", n, 10000) for n in range(10)]
        found = run(
            ("begin", 200, 200), *items, *measured, "value", "contract", "left", "kept", "certify", ("split", 0), ("look", 9),
            "hand", "kept", "certify", ("split", 1), "close", "kept", "certify", ("split", 2), "due", "certify",
            ("trade", 0), ("trade", 1), ("trade", 2), ("trade", 3), ("pay", 0, 4294967295), ("open", 0), "sums", "state",
        )
        self.assertEqual(found[21:], [
            [0, whole], [0, whole], [0, 0], [0, 20000000000], [0, 80000000000],
            [0, 24000000000, 24000000000, 16000000000, 16000000000], [0, 10000, 1000000, 10000, 1],
            [0, 10000000000], [0, 10000000000], [1, 10000000000], [0, 3000000000, 3000000000, 2000000000, 2000000000],
            [0, 10000000000], [0, 0], [2, 10000000000], [0, 3000000000, 3000000000, 2000000000, 2000000000], [0, 0], [-6],
            [0, 30000000000, 30000000000], [0, 30000000000, 30000000000], [0, 20000000000, 20000000000],
            [0, 20000000000, 20000000000], [0, 75705032705], [0, 75705032705], [0, whole, 4294967295], [10, 3, 1, 1],
        ])

    def test_the_greatest_bill_paid_to_the_end(self):
        items = [("item", 10000, 1000000, 3) for n in range(10)]
        measured = [("measure", n, 10000) for n in range(10)]
        bill = bill_of(("begin", 0, 0), *items, *measured, "hand", "close", "certify")
        times = 0
        while told_of(bill, "open", 0) != [0]:
            tell(bill, ("pay", 0, min(4294967295, told_of(bill, "open", 0)[0])))
            times += 1
        self.assertEqual(times, 24)
        self.assertEqual(tell(bill, "sums", "due"), [[0, 100000000000, 100000000000], [0, 0]])


class Holds(unittest.TestCase):
    def test_what_is_certified_was_measured_less_what_is_kept(self):
        certified = 0
        for bill, call, told in drawn_bills(200, 100):
            if call[0] == "certify" and told[0] >= 0:
                certified += 1
                self.assertGreater(told[1], 0)
                self.assertEqual(told_of(bill, "sums")[0], told_of(bill, "value")[0] - told_of(bill, "kept")[0])
                self.assertEqual(told_of(bill, "due"), [0])
                self.assertEqual(told_of(bill, "open", told[0]), [told[1]])
        self.assertGreater(certified, 200)

    def test_what_is_paid_was_certified(self):
        paid = 0
        for bill, call, told in drawn_bills(200, 100):
            if call[0] == "pay" and told[0] >= 0:
                paid += 1
                sums = told_of(bill, "sums")
                number = tell(bill, "state")[0][1]
                self.assertLessEqual(sums[1], sums[0])
                self.assertEqual(sum(told_of(bill, "open", n)[0] for n in range(number)), sums[0] - sums[1])
                self.assertEqual(told, [0] + told_of(bill, "open", call[1]))
        self.assertGreater(paid, 50)

    def test_trades_parts_are_the_whole_and_none_is_off_by_a_cent(self):
        below = 0
        for bill, call, told in drawn_bills(200, 100):
            if call[0] == "certify" and told[0] >= 0:
                parts = told_of(bill, "split", told[0])
                self.assertEqual(sum(parts), told[1])
                below += min(parts) < 0
                certified = told_of(bill, "sums")[0]
                value = told_of(bill, "value")[0]
                trades = [told_of(bill, "trade", t) for t in range(4)]
                self.assertEqual(sum(worth for worth, got in trades), value)
                self.assertEqual(sum(got for worth, got in trades), certified)
                for worth, got in trades:
                    self.assertLess(abs(got * value - certified * worth), value)
        self.assertGreater(below, 10)

    def finish(self, bill):
        """Measure all, hand over, close, certify and pay."""
        items = tell(bill, "state")[0][0]
        for i in range(items):
            tell(bill, ("measure", i, told_of(bill, "look", i)[0]))
        tell(bill, "hand", "certify", "close", "certify")
        for n in range(tell(bill, "state")[0][1]):
            tell(bill, ("pay", n, told_of(bill, "open", n)[0]))

    def test_closed_certified_and_paid_it_is_just_the_contract(self):
        just = 0
        beyond = 0
        for seed in range(300):
            draw = numbers_below(seed)
            # Within the greatest argument, so that one pay is enough for a certificate.
            items = [("item", draw(12), draw(99999), draw(4)) for n in range(1 + draw(10))]
            bill = bill_of(("begin", draw(201), draw(201)), *items)
            most = 0
            for step in range(60):
                call = drawn_call(draw)
                if call[0] in ("measure", "change", "certify", "pay"):
                    tell(bill, call)
                    most = max(most, told_of(bill, "sums")[0])
            self.finish(bill)
            contract = told_of(bill, "contract")[0]
            if most > contract:
                beyond += 1
                self.assertEqual(told_of(bill, "sums"), [most, most])
            else:
                just += 1
                self.assertEqual(told_of(bill, "sums"), [contract, contract])
            self.assertEqual(told_of(bill, "due"), [0])
            self.assertEqual(tell(bill, "state")[0][2:], [1, 1])
        self.assertGreater(just, 100)
        self.assertGreater(beyond, 2)

    def test_each_trade_has_just_its_items_value_at_last(self):
        for seed in range(100):
            draw = numbers_below(seed)
            items = [("item", draw(12), draw(99999), draw(4)) for n in range(1 + draw(10))]
            bill = bill_of(("begin", 1 + draw(200), 1 + draw(200)), *items)
            for step in range(20):
                tell(bill, ("measure", draw(10), draw(12)), "certify")
            self.finish(bill)
            if told_of(bill, "sums")[0] == told_of(bill, "contract")[0]:
                for t in range(4):
                    worth, got = told_of(bill, "trade", t)
                    self.assertEqual(worth, got)

    def test_in_which_order_it_is_measured_does_not_matter(self):
        items = [("item", 9, 333, 0), ("item", 9, 77, 1), ("item", 9, 1001, 3)]
        measured = [("measure", 0, 5), ("measure", 1, 9), ("measure", 2, 1)]
        asked = ("value", "kept", "due", "certify", ("split", 0), ("open", 0), *[("trade", t) for t in range(4)], "sums", "state")
        orders = list(itertools.permutations(measured))
        # Measured otherwise in between, it still comes to the same.
        orders += [(("measure", 1, 3), *order) for order in orders]
        found = {str(run(("begin", 77, 33), *items, *order, *asked)[-len(asked):]) for order in orders}
        self.assertEqual(len(found), 1)


if __name__ == "__main__":
    unittest.main()
