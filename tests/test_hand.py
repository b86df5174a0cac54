"""Point 3: hand and close, and what the other calls answer behind them."""

import unittest

from tests.lines import bill_of, last, picture, run, tell

# 1000 cents, of which 100 are kept.
DONE = (("begin", 100, 200), ("item", 10, 100, 1), ("measure", 0, 10))
ASKED = ("value", "contract", "left", "kept", "due")


class Hand(unittest.TestCase):
    def test_0_then_what_is_due_then(self):
        self.assertEqual(run(*DONE, "due", "hand", "due")[3:], [[0, 900], [0, 950], [0, 950]])
        self.assertEqual(run(*DONE, "certify", "hand", "due")[3:], [[0, 900], [0, 50], [0, 50]])

    def test_a_cent_that_is_kept_halved(self):
        for keep, kept, half in ((0, 0, 0), (1, 1, 0), (2, 2, 1), (3, 3, 1), (5, 5, 2)):
            with self.subTest(keep=keep):
                line = (("begin", keep, 200), ("item", 1000, 1, 0), ("measure", 0, 1000), "kept", "certify")
                told = run(*line, "hand", "kept", "close", "kept")
                self.assertEqual(told[3], [0, kept])
                self.assertEqual(told[5:], [[0, kept - half], [0, half], [0, kept], [0, 0]])

    def test_half_of_the_lesser_not_the_lesser_of_halves(self):
        line = (("begin", 200, 50), ("item", 1000, 1, 0), ("measure", 0, 1000), "kept", "hand", "kept")
        self.assertEqual(run(*line)[3:], [[0, 50], [0, 975], [0, 25]])
        line = (("begin", 50, 200), ("item", 1000, 1, 0), ("measure", 0, 1000), "kept", "hand", "kept")
        self.assertEqual(run(*line)[3:], [[0, 50], [0, 975], [0, 25]])

    def test_a_bill_without_items(self):
        told = run(("begin", 100, 100), "hand", "state", *ASKED, "certify", "hand", "close", "state")
        self.assertEqual(told[1:], [[0, 0], [0, 0, 1, 0]] + [[0, 0]] * 5 + [[-6], [-17], [0, 0], [0, 0, 1, 1]])

    def test_not_as_many_done_as_ordered(self):
        items = [("item", 3, 10, 0), ("item", 4, 10, 1), ("item", 5, 10, 2)]
        for done, told in (
            ((3, 4, 5), [0, 120]),
            ((2, 4, 5), [-33]),
            ((3, 3, 5), [-33]),
            ((3, 4, 4), [-33]),
            ((0, 0, 0), [-33]),
            ((2, 3, 4), [-33]),
        ):
            measured = [("measure", n, done[n]) for n in range(3)]
            with self.subTest(done=done):
                self.assertEqual(last(("begin", 0, 0), *items, *measured, "hand"), told)

    def test_each_item_counts_not_what_it_is_worth(self):
        line = (("begin", 0, 0), ("item", 2, 0, 0), ("item", 2, 10, 0), ("measure", 1, 2))
        told = run(*line, "left", "hand", "state", ("measure", 0, 2), "hand")
        self.assertEqual(told[4:], [[0, 0], [-33], [2, 0, 0, 0], [0], [0, 20]])

    def test_none_ordered_is_done(self):
        self.assertEqual(last(("begin", 0, 0), ("item", 0, 10, 0), "hand"), [0, 0])

    def test_a_change_can_make_it_so(self):
        line = (("begin", 100, 100), ("item", 10, 100, 0), ("measure", 0, 9))
        self.assertEqual(run(*line, "hand", ("change", 0, 9), "hand", "hand")[3:], [[-33], [10], [0, 855], [-17]])
        self.assertEqual(run(*DONE, ("change", 0, 11), "hand")[3:], [[10], [-33]])

    def test_a_second_time(self):
        self.assertEqual(run(*DONE, "hand", "hand", "hand", "kept")[4:], [[-17], [-17], [0, 50]])
        self.assertEqual(run(*DONE, "hand", "close", "hand")[3:], [[0, 950], [0, 1000], [-17]])

    def test_a_refusal_changes_nothing(self):
        for calls, told in (
            ((*DONE, ("measure", 0, 9), "hand"), [-33]),
            ((*DONE, "certify", "hand", "hand"), [-17]),
            ((*DONE, "hand", "close", "hand"), [-17]),
        ):
            bill = bill_of(*calls[:-1])
            before = picture(bill)
            self.assertEqual(tell(bill, calls[-1]), [told])
            self.assertEqual(picture(bill), before)

    def test_certified_beyond_what_is_owed_then(self):
        items = (("item", 10, 100, 0), ("item", 10, 100, 1))
        line = (("begin", 200, 200), *items, ("measure", 0, 10), ("measure", 1, 10), "certify")
        fewer = (("measure", 1, 0), ("change", 1, 0))
        told = run(*line, *fewer, "hand", "due", "certify", "close", "due", "certify", "sums")
        self.assertEqual(told[5], [0, 1600])
        self.assertEqual(told[8:], [[0, 0], [0, 0], [-6], [0, 0], [0, 0], [-6], [0, 1600, 0]])


class Close(unittest.TestCase):
    def test_0_then_what_is_due_then(self):
        self.assertEqual(run(*DONE, "hand", "close", "due")[4:], [[0, 1000], [0, 1000]])
        self.assertEqual(run(*DONE, "certify", "hand", "close", "due")[5:], [[0, 100], [0, 100]])
        self.assertEqual(run(*DONE, "certify", "hand", "certify", "close", "due")[6:], [[0, 50], [0, 50]])

    def test_before_it_is_handed_over(self):
        self.assertEqual(last(("begin", 0, 0), "close"), [-13])
        self.assertEqual(run(*DONE, "close", "state", "kept", "hand", "close")[3:], [
            [-13], [1, 0, 0, 0], [0, 100], [0, 950], [0, 1000],
        ])
        self.assertEqual(run(*DONE, ("measure", 0, 9), "hand", "close")[4:], [[-33], [-13]])

    def test_a_second_time(self):
        self.assertEqual(run(*DONE, "hand", "close", "close", "close", "state")[5:], [[-17], [-17], [1, 0, 1, 1]])

    def test_a_refusal_changes_nothing(self):
        for calls, told in (
            ((*DONE, "certify", "close"), [-13]),
            ((*DONE, "certify", "hand", "close", "close"), [-17]),
        ):
            bill = bill_of(*calls[:-1])
            before = picture(bill)
            self.assertEqual(tell(bill, calls[-1]), [told])
            self.assertEqual(picture(bill), before)


class Behind(unittest.TestCase):
    """The other calls behind hand, and behind close."""

    def test_item_change_and_measure_are_refused(self):
        calls = (
            ("item", 1, 1, 0), ("item", 10001, 1, 0),
            ("change", 0, 10), ("change", 0, 9), ("change", 0, 11), ("change", 0, 10001), ("change", 1, 10001),
            ("measure", 0, 10), ("measure", 0, 9), ("measure", 0, 11), ("measure", 1, 11),
            "state", ("look", 0),
        )
        refused = [[-16], [-22], [-16], [-16], [-16], [-22], [-2], [-16], [-16], [-16], [-2]]
        told = run(*DONE, "hand", *calls, "close", *calls)
        self.assertEqual(told[4:17], refused + [[1, 0, 1, 0], [0, 10, 100, 10, 1]])
        self.assertEqual(told[18:], refused + [[1, 0, 1, 1], [0, 10, 100, 10, 1]])

    def test_left_kept_due_and_certify(self):
        told = run(*DONE, "hand", *ASKED, "certify", *ASKED, "certify", "close", *ASKED, "certify", *ASKED, "certify")
        self.assertEqual(told[3:9], [[0, 950], [0, 1000], [0, 1000], [0, 0], [0, 50], [0, 950]])
        self.assertEqual(told[9:16], [[0, 950], [0, 1000], [0, 1000], [0, 0], [0, 50], [0, 0], [-6]])
        self.assertEqual(told[16:22], [[0, 50], [0, 1000], [0, 1000], [0, 0], [0, 0], [0, 50]])
        self.assertEqual(told[22:], [[1, 50], [0, 1000], [0, 1000], [0, 0], [0, 0], [0, 0], [-6]])

    def test_pay_open_split_and_trade(self):
        calls = (("pay", 0, 1), ("open", 0), ("split", 0), ("trade", 1), "sums")
        told = run(*DONE, "certify", "hand", *calls, "close", *calls, "certify", ("split", 1), ("pay", 1, 100), ("trade", 1))
        self.assertEqual(told[5:10], [[0, 899], [0, 899], [0, 0, 900, 0, 0], [0, 1000, 900], [0, 900, 1]])
        self.assertEqual(told[11:16], [[0, 898], [0, 898], [0, 0, 900, 0, 0], [0, 1000, 900], [0, 900, 2]])
        self.assertEqual(told[16:], [[1, 100], [0, 0, 100, 0, 0], [0, 0], [0, 1000, 1000]])

    def test_forty_certificates_and_one_more(self):
        calls = [("begin", 100, 100), ("item", 400, 100, 0)]
        for done in range(10, 391, 10):
            calls += [("measure", 0, done), "certify"]
        told = run(*calls, ("measure", 0, 400), "hand", "certify", "certify", "close", "due", "certify", "state", "sums")
        self.assertEqual(told[3:80:2], [[n, 900] for n in range(39)])
        self.assertEqual(told[80:], [
            [390], [0, 2900], [39, 2900], [-28], [0, 2000], [0, 2000], [-28], [1, 40, 1, 1], [0, 38000, 0],
        ])


if __name__ == "__main__":
    unittest.main()
