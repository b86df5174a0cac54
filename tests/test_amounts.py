"""Point 2: value, contract, left, kept and due."""

import itertools
import unittest

from tests.lines import handed_over, last, run, tell

AMOUNTS = ("value", "contract", "left", "kept", "due")


class Amounts(unittest.TestCase):
    def test_each_is_0_then_it(self):
        told = run(("begin", 100, 200), ("item", 10, 1000, 0), ("item", 7, 30, 3), ("measure", 0, 4), ("measure", 1, 7), *AMOUNTS)
        self.assertEqual(told[5:], [[0, 4210], [0, 10210], [0, 6000], [0, 421], [0, 3789]])

    def test_the_greatest_bill(self):
        items = [("item", 10000, 1000000, n % 4) for n in range(10)]
        measured = [("measure", n, 10000) for n in range(10)]
        told = run(("begin", 200, 200), *items, *measured, *AMOUNTS, "certify")
        whole = 100000000000
        self.assertEqual(told[21:26], [[0, whole], [0, whole], [0, 0], [0, whole // 5], [0, whole // 5 * 4]])
        self.assertEqual(told[26], [0, whole // 5 * 4])

    def test_a_rate_of_0(self):
        told = run(("begin", 100, 100), ("item", 10, 0, 0), ("measure", 0, 10), *AMOUNTS, "certify")
        self.assertEqual(told[3:], [[0, 0]] * 5 + [[-6]])

    def test_a_rate_of_0_beside_another(self):
        told = run(("begin", 100, 100), ("item", 10, 0, 0), ("item", 1, 50, 1), ("measure", 0, 10), ("measure", 1, 1), *AMOUNTS)
        self.assertEqual(told[5:], [[0, 50], [0, 50], [0, 0], [0, 5], [0, 45]])

    def test_in_which_order_it_is_measured_does_not_matter(self):
        items = [("item", 9, 333, 0), ("item", 9, 77, 1), ("item", 9, 1001, 0)]
        measured = [("measure", 0, 5), ("measure", 1, 9), ("measure", 2, 1)]
        found = {str(run(("begin", 77, 33), *items, *order, *AMOUNTS)[7:]) for order in itertools.permutations(measured)}
        self.assertEqual(len(found), 1)

    def test_asking_changes_nothing(self):
        line = (("begin", 77, 33), ("item", 9, 333, 0), ("measure", 0, 5))
        told = run(*line, *AMOUNTS, *AMOUNTS)
        self.assertEqual(told[3:8], told[8:])


class Kept(unittest.TestCase):
    def kept(self, keep, most, ordered, done, rate):
        return last(("begin", keep, most), ("item", ordered, rate, 0), ("measure", 0, done), "kept")

    def test_of_the_value_rounded_down(self):
        self.assertEqual(self.kept(100, 200, 10, 1, 9), [0, 0])
        self.assertEqual(self.kept(100, 200, 10, 1, 10), [0, 1])
        self.assertEqual(self.kept(100, 200, 10, 1, 19), [0, 1])
        self.assertEqual(self.kept(33, 200, 1000, 999, 1), [0, 32])

    def test_at_most_of_the_contract_rounded_down(self):
        self.assertEqual(self.kept(200, 1, 1999, 1999, 1), [0, 1])
        self.assertEqual(self.kept(200, 1, 2000, 2000, 1), [0, 2])
        self.assertEqual(self.kept(100, 50, 100, 49, 1000), [0, 4900])
        self.assertEqual(self.kept(100, 50, 100, 50, 1000), [0, 5000])
        self.assertEqual(self.kept(100, 50, 100, 51, 1000), [0, 5000])

    def test_of_all_items_together_not_of_each(self):
        items = [("item", 1, 9, n) for n in range(3)]
        measured = [("measure", n, 1) for n in range(3)]
        self.assertEqual(last(("begin", 100, 200), *items, *measured, "kept"), [0, 2])
        self.assertEqual(last(("begin", 200, 100), *items, *measured, "kept"), [0, 2])

    def test_keep_and_most_at_their_edges(self):
        self.assertEqual(self.kept(0, 200, 1000, 1000, 1), [0, 0])
        self.assertEqual(self.kept(200, 0, 1000, 1000, 1), [0, 0])
        self.assertEqual(self.kept(200, 200, 1000, 1000, 1), [0, 200])

    def test_handed_over_it_is_half_rounded_down(self):
        for keep, whole, half in ((0, 0, 0), (1, 1, 0), (2, 2, 1), (3, 3, 1), (200, 200, 100)):
            calls = (("begin", keep, 200), ("item", 1000, 1, 0), ("measure", 0, 1000))
            self.assertEqual(last(*calls, "kept"), [0, whole])
            told = tell(handed_over(*calls), "kept", "due")
            self.assertEqual(told, [[0, half], [0, 1000 - half]])

    def test_handed_over_it_is_half_of_the_lesser(self):
        bill = handed_over(("begin", 200, 50), ("item", 1000, 1, 0), ("measure", 0, 1000))
        self.assertEqual(tell(bill, "kept"), [[0, 25]])

    def test_closed_it_is_nothing(self):
        bill = handed_over(("begin", 200, 200), ("item", 1000, 1, 0), ("measure", 0, 1000), "certify")
        told = tell(bill, "close", "kept", "due", "certify", "due")
        self.assertEqual(told, [[0, 200], [0, 0], [0, 200], [1, 200], [0, 0]])

    def test_a_change_that_lowers_the_contract_lowers_it(self):
        line = (("begin", 100, 50), ("item", 100, 1000, 0), ("measure", 0, 60), "kept", "certify")
        told = run(*line, ("change", 0, 60), "contract", "kept", "due", "certify", "due")
        self.assertEqual(told[3:5], [[0, 5000], [0, 55000]])
        self.assertEqual(told[5:], [[100], [0, 60000], [0, 3000], [0, 2000], [1, 2000], [0, 0]])

    def test_a_change_that_raises_the_contract_raises_it(self):
        line = (("begin", 100, 50), ("item", 60, 1000, 0), ("measure", 0, 60), "certify")
        told = run(*line, ("change", 0, 100), "kept", "due", "certify")
        self.assertEqual(told[3:], [[0, 57000], [60], [0, 5000], [0, 0], [-6]])


class Due(unittest.TestCase):
    LINE = (("begin", 100, 200), ("item", 100, 1000, 0), ("measure", 0, 50), "certify")

    def test_it_is_what_is_owed_beyond_what_is_certified(self):
        told = run(*self.LINE, "due", ("measure", 0, 51), "due", "certify", "due", ("measure", 0, 53), "due")
        self.assertEqual(told[3:], [[0, 45000], [0, 0], [50], [0, 900], [1, 900], [0, 0], [51], [0, 1800]])

    def test_fewer_measured_behind_a_certificate(self):
        told = run(*self.LINE, ("measure", 0, 20), "value", "kept", "due", "certify", ("measure", 0, 50), "due", "certify")
        self.assertEqual(told[4:], [[50], [0, 20000], [0, 2000], [0, 0], [-6], [20], [0, 0], [-6]])

    def test_more_measured_again_behind_that(self):
        told = run(*self.LINE, ("measure", 0, 20), ("measure", 0, 60), "due", "certify")
        self.assertEqual(told[6:], [[0, 9000], [1, 9000]])


if __name__ == "__main__":
    unittest.main()
