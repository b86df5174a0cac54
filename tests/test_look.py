"""Point 2: look and state."""

import unittest

from tests.lines import GREATEST, bill_of, last, picture, run, tell

TWO = (("begin", 100, 50), ("item", 9, 700, 3), ("item", 8, 0, 0))


class Look(unittest.TestCase):
    def test_ordered_rate_done_and_trade(self):
        self.assertEqual(run(*TWO, ("measure", 0, 5), ("look", 0))[-1], [0, 9, 700, 5, 3])

    def test_nothing_is_done_at_first(self):
        self.assertEqual(run(*TWO, ("look", 0), ("look", 1))[3:], [[0, 9, 700, 0, 3], [0, 8, 0, 0, 0]])

    def test_a_rate_of_0(self):
        told = run(*TWO, ("measure", 1, 8), ("look", 1), ("trade", 0), "value", "due")
        self.assertEqual(told[3:], [[0], [0, 8, 0, 8, 0], [0, 0, 0], [0, 0], [0, 0]])

    def test_behind_change_and_measure(self):
        told = run(
            *TWO, ("change", 0, 12), ("look", 0), ("measure", 0, 11), ("look", 0), ("change", 0, 11), ("look", 0),
            ("measure", 0, 2), ("look", 0), ("look", 1),
        )
        self.assertEqual(told[4::2], [[0, 12, 700, 0, 3], [0, 12, 700, 11, 3], [0, 11, 700, 11, 3], [0, 11, 700, 2, 3]])
        self.assertEqual(told[11], [0, 8, 0, 0, 0])

    def test_behind_refused_ones(self):
        refused = (("change", 0, 3), ("look", 0), ("measure", 0, 10), ("look", 0), ("change", 0, 10001), ("look", 0))
        told = run(*TWO, ("measure", 0, 4), *refused)
        self.assertEqual(told[4:], [[-33], [0, 9, 700, 4, 3], [-33], [0, 9, 700, 4, 3], [-22], [0, 9, 700, 4, 3]])

    def test_no_such_item(self):
        for i in (2, 3, 1000000000, GREATEST):
            self.assertEqual(last(*TWO, ("look", i)), [-2])
        self.assertEqual(last(("begin", 0, 0), ("look", 0)), [-2])

    def test_a_certificate_is_no_item(self):
        line = (("begin", 0, 0), ("item", 9, 1, 0), ("measure", 0, 1), "certify", ("measure", 0, 2), "certify")
        self.assertEqual(last(*line, ("look", 1)), [-2])

    def test_the_last_of_ten(self):
        items = [("item", n, n * 2, n % 4) for n in range(10)]
        told = run(("begin", 0, 0), *items, ("item", 1, 1, 1), *[("look", n) for n in range(11)])
        self.assertEqual(told[12:], [[0, n, n * 2, 0, n % 4] for n in range(10)] + [[-2]])

    def test_edges(self):
        told = run(("begin", 0, 0), ("item", 10000, 1000000, 3), ("measure", 0, 10000), ("look", 0))
        self.assertEqual(told[-1], [0, 10000, 1000000, 10000, 3])

    def test_asking_changes_nothing(self):
        bill = bill_of(*TWO, ("measure", 0, 5), "certify")
        before = picture(bill)
        tell(bill, ("look", 0), ("look", 1), ("look", 2), "state", "sums")
        self.assertEqual(picture(bill), before)


class State(unittest.TestCase):
    def test_items_certificates_handed_closed(self):
        told = run(
            ("begin", 100, 50), "state", ("item", 9, 700, 3), "state", ("item", 8, 0, 0), "state",
            ("measure", 0, 1), "certify", "state", ("measure", 0, 9), "certify", "state", ("pay", 0, 1), "state",
            ("measure", 1, 8), "hand", "state", "certify", "state", "close", "state",
        )
        self.assertEqual([answer for answer in told if len(answer) == 4], [
            [0, 0, 0, 0], [1, 0, 0, 0], [2, 0, 0, 0], [2, 1, 0, 0], [2, 2, 0, 0], [2, 2, 0, 0],
            [2, 2, 1, 0], [2, 3, 1, 0], [2, 3, 1, 1],
        ])

    def test_refused_ones_do_not_count(self):
        told = run(*TWO, ("item", 1, 1, 4), "certify", "hand", "close", "state")
        self.assertEqual(told[3:], [[-22], [-6], [-33], [-13], [2, 0, 0, 0]])

    def test_handed_over_and_closed_are_whole_numbers(self):
        for calls in ((), ("hand",), ("hand", "close")):
            told = tell(bill_of(("begin", 0, 0), *calls), "state")[0]
            self.assertEqual([type(number) for number in told], [int] * 4)


if __name__ == "__main__":
    unittest.main()
