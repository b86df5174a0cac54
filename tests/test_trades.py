"""Point 2: split and trade."""

import unittest

from tests.lines import GREATEST, bill_of, last, picture, run, tell

EACH = tuple(("trade", t) for t in range(4))


def one_each(rate, *trades):
    """One item of this rate for each of the trades, measured."""
    calls = [("item", 1, rate, t) for t in trades]
    return calls + [("measure", n, 1) for n in range(len(trades))]


class Split(unittest.TestCase):
    def test_0_then_what_each_of_the_four_gets(self):
        items = [("item", 10, 100, 1), ("item", 10, 100, 3), ("item", 10, 100, 1)]
        measured = [("measure", 0, 1), ("measure", 1, 2), ("measure", 2, 4)]
        told = run(("begin", 100, 200), *items, *measured, "certify", ("split", 0))
        self.assertEqual(told[7:], [[0, 630], [0, 0, 450, 0, 180]])

    def test_three_shares_that_do_not_divide(self):
        for keep, told in (
            (70, [0, 93, 93, 93, 0]),
            (67, [0, 94, 93, 93, 0]),
            (64, [0, 94, 94, 93, 0]),
        ):
            line = (("begin", keep, 200), *one_each(100, 0, 1, 2), "certify")
            self.assertEqual(last(*line, ("split", 0)), told)
            self.assertEqual(run(*line, *EACH)[-4:], [[0, 100 if t < 3 else 0, told[t + 1]] for t in range(4)])

    def test_of_like_rests_the_lesser_number_gets_the_cent(self):
        for trades, told in (
            ((1, 2, 3), [0, 0, 94, 93, 93]),
            ((3, 2, 1), [0, 0, 94, 93, 93]),
            ((0, 2, 3), [0, 94, 0, 93, 93]),
            ((3, 1, 0), [0, 94, 93, 0, 93]),
        ):
            with self.subTest(trades=trades):
                line = (("begin", 67, 200), *one_each(100, *trades), "certify")
                self.assertEqual(last(*line, ("split", 0)), told)

    def test_the_greatest_rest_gets_the_cent(self):
        # 9 of 10 cents: the shares are 0.9, 1.8, 6.3.
        items = [("item", 10, 1, t) for t in range(3)]
        measured = [("measure", 0, 1), ("measure", 1, 2), ("measure", 2, 7)]
        told = run(("begin", 100, 200), *items, *measured, "certify", ("split", 0))
        self.assertEqual(told[-2:], [[0, 9], [0, 1, 2, 6, 0]])

    def test_a_trade_without_items_gets_nothing(self):
        line = (("begin", 1, 200), *one_each(999, 1, 3), "certify", ("split", 0), *EACH)
        told = run(*line)
        self.assertEqual(told[-6:], [[0, 1997], [0, 0, 999, 0, 998], [0, 0, 0], [0, 999, 999], [0, 0, 0], [0, 999, 998]])

    def test_of_all_certified_less_what_it_got(self):
        # Of 280, 290 and 300 cents for three like trades: who had the odd cent gets less the next time.
        line = (("begin", 67, 200), *one_each(100, 0, 1, 2), "certify", "hand", "certify", "close", "certify")
        told = run(*line, ("split", 0), ("split", 1), ("split", 2), *EACH)
        self.assertEqual(told[7:12], [[0, 280], [0, 10], [1, 10], [0, 10], [2, 10]])
        self.assertEqual(told[12:15], [[0, 94, 93, 93, 0], [0, 3, 4, 3, 0], [0, 3, 3, 4, 0]])
        self.assertEqual(told[15:], [[0, 100, 100], [0, 100, 100], [0, 100, 100], [0, 0, 0]])

    def test_as_the_values_are_when_it_is_certified(self):
        line = (("begin", 200, 200), *[("item", 9, 1, t) for t in range(3)], *[("measure", n, 2) for n in range(3)])
        told = run(*line, "certify", ("split", 0), ("measure", 2, 9), "certify", ("split", 1), ("split", 0))
        self.assertEqual(told[7:], [[0, 5], [0, 2, 2, 1, 0], [2], [1, 6], [0, 0, 0, 6, 0], [0, 2, 2, 1, 0]])

    def test_a_trade_that_gets_less_than_nothing(self):
        items = (("item", 1000, 1, 0), ("item", 1000, 1, 1))
        line = (("begin", 0, 0), *items, ("measure", 0, 100), "certify", ("measure", 0, 30), ("measure", 1, 90), "certify")
        told = run(*line, ("split", 0), ("split", 1), *EACH, "sums")
        self.assertEqual(told[4], [0, 100])
        self.assertEqual(told[7:], [
            [1, 20], [0, 100, 0, 0, 0], [0, -70, 90, 0, 0], [0, 30, 30], [0, 90, 90], [0, 0, 0], [0, 0, 0], [0, 120, 0],
        ])

    def test_less_than_nothing_by_a_cent(self):
        line = (("begin", 0, 0), *[("item", 9, 1, t) for t in range(2)], ("measure", 0, 3), ("measure", 1, 1), "certify")
        told = run(*line, ("measure", 1, 0), ("measure", 0, 5), "certify", ("split", 1), ("trade", 1))
        self.assertEqual(told[-3:], [[1, 1], [0, 2, -1, 0, 0], [0, 0, 0]])

    def test_less_than_nothing_by_rounding_alone(self):
        # Nothing is measured lower: the first has 2.5 cents of 5, then 2.4 of 8.
        line = (("begin", 200, 200), ("item", 9, 1, 0), ("item", 9, 1, 1), ("measure", 0, 3), ("measure", 1, 3), "certify")
        told = run(*line, ("split", 0), ("measure", 1, 7), "certify", ("split", 1), ("trade", 0), ("trade", 1))
        self.assertEqual(told[5:], [[0, 5], [0, 3, 2, 0, 0], [3], [1, 3], [0, -1, 4, 0, 0], [0, 3, 2], [0, 7, 6]])

    def test_all_of_it_goes_over_to_another(self):
        items = (("item", 10, 1000, 2), ("item", 10, 1001, 3))
        line = (("begin", 0, 0), *items, ("measure", 0, 10), "certify", ("measure", 0, 0), ("measure", 1, 10), "certify")
        told = run(*line, ("split", 1), ("trade", 2), ("trade", 3))
        self.assertEqual(told[-4:], [[1, 10], [0, 0, 0, -10000, 10010], [0, 0, 0], [0, 10010, 10010]])

    def test_it_stays_whatever_is_measured_changed_and_paid_later(self):
        line = (("begin", 100, 100), ("item", 9, 7, 0), ("item", 9, 5, 1), ("measure", 0, 9), ("measure", 1, 4), "certify")
        later = (("measure", 0, 2), ("measure", 1, 9), ("change", 0, 2), ("pay", 0, 30), ("item", 5, 50, 2), ("measure", 2, 5))
        told = run(*line, ("split", 0), *later, ("split", 0), "certify", ("split", 0), "hand", "close", ("split", 0))
        found = told[6]
        self.assertEqual(found, [0, 57, 18, 0, 0])
        for at in (13, 15, 18):
            self.assertEqual(told[at], found)
        self.assertTrue(all(answer[0] >= 0 for answer in told))

    def test_no_such_certificate(self):
        line = (("begin", 0, 0), *one_each(10, 0, 1), "certify")
        for n in (1, 2, 1000000000, GREATEST):
            self.assertEqual(last(*line, ("split", n)), [-2])
        self.assertEqual(last(*line[:-1], ("split", 0)), [-2])

    def test_what_is_answered_is_not_what_is_held(self):
        bill = bill_of(("begin", 0, 0), *one_each(10, 0, 1), "certify")
        told = tell(bill, ("split", 0))[0]
        told[1] = 5
        told.clear()
        self.assertEqual(tell(bill, ("split", 0)), [[0, 10, 10, 0, 0]])


class Trade(unittest.TestCase):
    ITEMS = (("item", 9, 100, 3), ("item", 9, 10, 0), ("item", 9, 1000, 3))
    LINE = (("begin", 100, 200), *ITEMS, ("measure", 0, 2), ("measure", 2, 1))

    def test_its_items_value_then_what_it_got(self):
        told = run(*self.LINE, *EACH, "certify", *EACH, ("measure", 1, 9), *EACH, "certify", *EACH)
        self.assertEqual(told[6:10], [[0, 0, 0], [0, 0, 0], [0, 0, 0], [0, 1200, 0]])
        self.assertEqual(told[10:15], [[0, 1080], [0, 0, 0], [0, 0, 0], [0, 0, 0], [0, 1200, 1080]])
        self.assertEqual(told[16:20], [[0, 90, 0], [0, 0, 0], [0, 0, 0], [0, 1200, 1080]])
        self.assertEqual(told[20:], [[1, 81], [0, 90, 81], [0, 0, 0], [0, 0, 0], [0, 1200, 1080]])

    def test_at_3_and_at_4(self):
        for t, told in ((3, [0, 1200, 0]), (4, [-22]), (5, [-22]), (1000000000, [-22]), (GREATEST, [-22])):
            self.assertEqual(last(*self.LINE, ("trade", t)), told)

    def test_of_what_is_done_not_of_what_is_ordered(self):
        told = run(*self.LINE, ("measure", 0, 0), ("trade", 3), ("change", 2, 5), ("trade", 3))
        self.assertEqual(told[6:], [[2], [0, 1000, 0], [9], [0, 1000, 0]])

    def test_what_it_got_stays_when_fewer_are_measured(self):
        told = run(*self.LINE, "certify", ("measure", 0, 0), ("measure", 2, 0), ("trade", 3))
        self.assertEqual(told[-1], [0, 0, 1080])

    def test_paying_leaves_it(self):
        told = run(*self.LINE, "certify", ("pay", 0, 1080), ("trade", 3))
        self.assertEqual(told[-1], [0, 1200, 1080])

    def test_asking_changes_nothing(self):
        bill = bill_of(*self.LINE, "certify")
        before = picture(bill)
        tell(bill, *EACH, ("trade", 4), ("split", 0), ("split", 1))
        self.assertEqual(picture(bill), before)

    def test_of_the_parts_by_all_certificates(self):
        bill = bill_of(("begin", 77, 133), *[("item", 9, rate, t % 4) for t, rate in enumerate((333, 77, 1001, 7, 13))])
        for step in range(30):
            tell(bill, ("measure", step % 5, step * 7 % 10), "certify")
        splits = [tell(bill, ("split", n))[0] for n in range(len(bill.certificates))]
        self.assertGreater(len(splits), 4)
        for t in range(4):
            self.assertEqual(tell(bill, ("trade", t))[0][2], sum(parts[t + 1] for parts in splits))
        certified = tell(bill, "sums")[0][1]
        self.assertEqual(sum(tell(bill, ("trade", t))[0][2] for t in range(4)), certified)


if __name__ == "__main__":
    unittest.main()
