"""Point 1: item, change and measure."""

import unittest

from tests.lines import GREATEST, handed_over, last, picture, run, tell

BEGIN = ("begin", 100, 50)
TEN = [("item", n, 10, n % 4) for n in range(10)]


class AddItem(unittest.TestCase):
    def test_items_are_numbered_from_0(self):
        self.assertEqual(run(BEGIN, *TEN)[1:], [[n] for n in range(10)])

    def test_ten_items_and_one_more(self):
        told = run(BEGIN, *TEN, "contract", ("item", 1, 1, 0), "contract", ("measure", 10, 0))
        self.assertEqual(told[11:], [[0, 450], [-28], [0, 450], [-2]])

    def test_nothing_of_it_is_done(self):
        told = run(BEGIN, ("item", 10, 10, 0), "value", ("measure", 0, 1))
        self.assertEqual(told[2:], [[0, 0], [0]])

    def test_edges(self):
        for ordered, rate, trade, told in (
            (0, 0, 0, 0),
            (0, 1000000, 3, 0),
            (10000, 0, 3, 0),
            (10000, 1000000, 0, 0),
            (10000, 1000000, 3, 0),
            (10001, 0, 0, -22),
            (0, 1000001, 0, -22),
            (0, 0, 4, -22),
            (10001, 1000001, 4, -22),
            (GREATEST, 0, 0, -22),
            (0, GREATEST, 0, -22),
            (0, 0, GREATEST, -22),
            (GREATEST, GREATEST, GREATEST, -22),
        ):
            with self.subTest(ordered=ordered, rate=rate, trade=trade):
                self.assertEqual(last(BEGIN, ("item", ordered, rate, trade)), [told])

    def test_a_refused_item_takes_no_number(self):
        told = run(BEGIN, ("item", 10001, 1, 0), ("item", 1, 1000001, 0), ("item", 1, 1, 4), ("item", 1, 1, 0))
        self.assertEqual(told[1:], [[-22], [-22], [-22], [0]])

    def test_out_of_range_ahead_of_full(self):
        for call in (("item", 10001, 0, 0), ("item", 0, 1000001, 0), ("item", 0, 0, 4)):
            self.assertEqual(last(BEGIN, *TEN, call), [-22])

    def test_handed_over_behind_out_of_range_and_ahead_of_full(self):
        bill = handed_over(BEGIN, *TEN, *[("measure", n, n) for n in range(10)])
        before = picture(bill)
        told = tell(bill, ("item", 10001, 1, 0), ("item", 1, 1000001, 0), ("item", 1, 1, 4), ("item", 1, 1, 0))
        self.assertEqual(told, [[-22], [-22], [-22], [-16]])
        self.assertEqual(picture(bill), before)
        self.assertEqual(last(BEGIN, "hand", ("item", 1, 1, 0)), [-16])
        self.assertEqual(last(BEGIN, "hand", "close", ("item", 1, 1, 0)), [-16])


class Change(unittest.TestCase):
    ONE = (BEGIN, ("item", 100, 10, 1), ("measure", 0, 40))

    def test_it_answers_how_many_were_ordered(self):
        told = run(*self.ONE, ("change", 0, 70), ("change", 0, 70), ("change", 0, 200), "contract", "value")
        self.assertEqual(told[3:], [[100], [70], [70], [0, 2000], [0, 400]])

    def test_it_changes_that_item_alone(self):
        told = run(BEGIN, ("item", 1, 1, 0), ("item", 2, 100, 0), ("item", 3, 10000, 0), ("change", 1, 5), "contract")
        self.assertEqual(told[4:], [[2], [0, 30501]])

    def test_down_to_what_is_done_and_no_further(self):
        told = run(*self.ONE, ("change", 0, 39), "contract", ("change", 0, 40), "left", ("change", 0, 0))
        self.assertEqual(told[3:], [[-33], [0, 1000], [100], [0, 0], [-33]])

    def test_to_0_where_nothing_is_done(self):
        told = run(BEGIN, ("item", 100, 10, 1), ("change", 0, 0), "contract", ("change", 0, 1))
        self.assertEqual(told[2:], [[100], [0, 0], [0]])

    def test_up_to_10000_and_no_further(self):
        told = run(*self.ONE, ("change", 0, 10001), ("change", 0, GREATEST), ("change", 0, 10000), "contract")
        self.assertEqual(told[3:], [[-22], [-22], [100], [0, 100000]])

    def test_no_such_item(self):
        self.assertEqual(last(BEGIN, ("change", 0, 1)), [-2])
        for i in (1, 2, GREATEST):
            self.assertEqual(last(*self.ONE, ("change", i, 1)), [-2])

    def test_no_such_item_ahead_of_out_of_range(self):
        self.assertEqual(last(*self.ONE, ("change", 1, 10001)), [-2])
        self.assertEqual(last(*self.ONE, ("change", GREATEST, GREATEST)), [-2])

    def test_handed_over(self):
        bill = handed_over(*self.ONE, ("measure", 0, 100))
        calls = (("change", 0, 101), ("change", 1, 100), ("change", 1, 10001), ("change", 0, 10001), ("change", 0, 99))
        for closing in ((), ("close",)):
            tell(bill, *closing)
            before = picture(bill)
            self.assertEqual(tell(bill, *calls), [[-16], [-2], [-2], [-22], [-16]])
            self.assertEqual(picture(bill), before)


class Measure(unittest.TestCase):
    ONE = (BEGIN, ("item", 100, 10, 1))

    def test_it_answers_how_many_were_done(self):
        told = run(*self.ONE, ("measure", 0, 40), ("measure", 0, 40), ("measure", 0, 50), "value", "contract")
        self.assertEqual(told[2:], [[0], [40], [40], [0, 500], [0, 1000]])

    def test_it_measures_that_item_alone(self):
        items = [("item", 9, 1, 0), ("item", 9, 100, 0), ("item", 9, 10000, 0)]
        told = run(BEGIN, *items, ("measure", 2, 5), ("measure", 1, 7), "value")
        self.assertEqual(told[4:], [[0], [0], [0, 50700]])

    def test_fewer_than_before(self):
        told = run(*self.ONE, ("measure", 0, 40), ("measure", 0, 10), "value", ("measure", 0, 0), "value")
        self.assertEqual(told[2:], [[0], [40], [0, 100], [10], [0, 0]])

    def test_up_to_what_is_ordered_and_no_further(self):
        told = run(*self.ONE, ("measure", 0, 101), ("measure", 0, GREATEST), "value", ("measure", 0, 100), "left")
        self.assertEqual(told[2:], [[-33], [-33], [0, 0], [0], [0, 0]])

    def test_none_ordered(self):
        told = run(BEGIN, ("item", 0, 10, 1), ("measure", 0, 1), ("measure", 0, 0))
        self.assertEqual(told[2:], [[-33], [0]])

    def test_what_is_ordered_is_as_changed(self):
        told = run(*self.ONE, ("change", 0, 50), ("measure", 0, 51), ("measure", 0, 50), ("change", 0, 51), ("measure", 0, 51))
        self.assertEqual(told[2:], [[100], [-33], [0], [50], [50]])

    def test_no_such_item(self):
        self.assertEqual(last(BEGIN, ("measure", 0, 0)), [-2])
        for i in (1, 2, GREATEST):
            self.assertEqual(last(*self.ONE, ("measure", i, 0)), [-2])

    def test_no_such_item_ahead_of_too_many(self):
        self.assertEqual(last(*self.ONE, ("measure", 1, GREATEST)), [-2])

    def test_handed_over(self):
        bill = handed_over(*self.ONE, ("measure", 0, 100))
        for closing in ((), ("close",)):
            tell(bill, *closing)
            before = picture(bill)
            told = tell(bill, ("measure", 0, 99), ("measure", 1, 100), ("measure", 0, 101))
            self.assertEqual(told, [[-16], [-2], [-16]])
            self.assertEqual(picture(bill), before)


if __name__ == "__main__":
    unittest.main()
