"""Point 2: pay, open and sums."""

import unittest

from tests.lines import GREATEST, bill_of, last, picture, run, tell

# Certificate 0 is of 900 cents, certificate 1 of 1800.
TWO = (("begin", 100, 200), ("item", 100, 1000, 0), ("measure", 0, 1), "certify", ("measure", 0, 3), "certify")


class Pay(unittest.TestCase):
    def test_it_answers_what_is_still_open(self):
        self.assertEqual(last(*TWO, ("pay", 0, 300)), [0, 600])
        self.assertEqual(last(*TWO, ("pay", 1, 300)), [0, 1500])

    def test_one_cent_and_all_but_one(self):
        self.assertEqual(last(*TWO, ("pay", 0, 1)), [0, 899])
        self.assertEqual(last(*TWO, ("pay", 0, 899)), [0, 1])

    def test_just_what_is_open(self):
        told = run(*TWO, ("pay", 0, 900), ("open", 0), "sums")
        self.assertEqual(told[6:], [[0, 0], [0, 0], [0, 2700, 900]])

    def test_one_cent_more_than_is_open(self):
        told = run(*TWO, ("pay", 0, 901), ("open", 0), ("pay", 0, 500), ("pay", 0, 401), ("pay", 0, 400))
        self.assertEqual(told[6:], [[-22], [0, 900], [0, 400], [-22], [0, 0]])

    def test_in_parts(self):
        told = run(
            *TWO, ("pay", 0, 100), ("open", 0), "sums", ("pay", 1, 1000), ("open", 1), "sums",
            ("pay", 0, 799), ("open", 0), "sums", ("pay", 0, 1), ("open", 0), ("pay", 1, 800), ("open", 1), "sums",
        )
        self.assertEqual(told[6:], [
            [0, 800], [0, 800], [0, 2700, 100], [0, 800], [0, 800], [0, 2700, 1100],
            [0, 1], [0, 1], [0, 2700, 1899], [0, 0], [0, 0], [0, 0], [0, 0], [0, 2700, 2700],
        ])

    def test_nothing_can_be_paid(self):
        self.assertEqual(last(*TWO, ("pay", 0, 0)), [-22])
        self.assertEqual(last(*TWO, ("pay", 0, 900), ("pay", 0, 0)), [-22])

    def test_wholly_paid_takes_no_more(self):
        told = run(*TWO, ("pay", 0, 900), ("pay", 0, 1), ("pay", 0, 900), ("pay", 0, GREATEST), ("open", 0), ("pay", 1, 1800))
        self.assertEqual(told[6:], [[0, 0], [-22], [-22], [-22], [0, 0], [0, 0]])

    def test_what_is_open_of_another_does_not_help(self):
        self.assertEqual(last(*TWO, ("pay", 0, 1800)), [-22])
        self.assertEqual(last(*TWO, ("pay", 0, 2700)), [-22])

    def test_no_such_certificate(self):
        for n in (2, 3, 1000000000, GREATEST):
            for cents in (0, 1, 900, GREATEST):
                with self.subTest(n=n, cents=cents):
                    self.assertEqual(last(*TWO, ("pay", n, cents)), [-2])
        self.assertEqual(last(("begin", 0, 0), ("pay", 0, 0)), [-2])

    def test_an_item_is_no_certificate(self):
        line = (("begin", 0, 0), ("item", 1, 1, 0), ("item", 1, 1, 0), ("measure", 0, 1))
        self.assertEqual(run(*line, ("pay", 0, 1), "certify", ("pay", 1, 1), ("pay", 0, 1))[4:], [[-2], [0, 1], [-2], [0, 0]])

    def test_a_refusal_changes_nothing(self):
        for paid in ((), (("pay", 0, 300),), (("pay", 0, 900),)):
            bill = bill_of(*TWO, *paid)
            before = picture(bill)
            told = tell(bill, ("pay", 0, 0), ("pay", 0, 901), ("pay", 2, 1), ("pay", 2, 0))
            self.assertEqual(told, [[-22], [-22], [-2], [-2]])
            self.assertEqual(picture(bill), before)

    def test_it_leaves_what_is_due_certified_and_shared(self):
        asked = ("value", "contract", "left", "kept", "due", ("split", 0), ("trade", 0), ("look", 0), "state")
        told = run(*TWO, ("measure", 0, 7), *asked, ("pay", 0, 5), ("pay", 1, 1800), *asked, "certify")
        self.assertEqual(told[7:16], told[18:27])
        self.assertEqual(told[27], [2, 3600])

    def test_behind_fewer_measured_it_can_still_be_paid(self):
        told = run(*TWO, ("measure", 0, 0), ("pay", 0, 900), ("pay", 1, 1800), "sums", "due")
        self.assertEqual(told[6:], [[3], [0, 0], [0, 0], [0, 2700, 2700], [0, 0]])

    def test_a_later_certificate_leaves_what_is_open(self):
        told = run(*TWO, ("pay", 1, 300), ("measure", 0, 4), "certify", ("open", 0), ("open", 1), ("open", 2), "sums")
        self.assertEqual(told[8:], [[2, 900], [0, 900], [0, 1500], [0, 900], [0, 3600, 300]])

    def test_of_one_beyond_what_an_argument_may_be(self):
        items = [("item", 10000, 1000000, 0)]
        whole = 10000000000
        told = run(
            ("begin", 0, 0), *items, ("measure", 0, 10000), "certify",
            ("pay", 0, GREATEST), ("pay", 0, GREATEST), ("pay", 0, GREATEST), ("pay", 0, whole - 2 * GREATEST), "sums",
        )
        self.assertEqual(told[3:], [
            [0, whole], [0, whole - GREATEST], [0, whole - 2 * GREATEST], [-22], [0, 0], [0, whole, whole],
        ])


class Open(unittest.TestCase):
    def test_at_first_it_is_what_it_is_of(self):
        self.assertEqual(run(*TWO, ("open", 0), ("open", 1))[6:], [[0, 900], [0, 1800]])

    def test_no_such_certificate(self):
        for n in (2, 1000000000, GREATEST):
            self.assertEqual(last(*TWO, ("open", n)), [-2])
        self.assertEqual(last(("begin", 0, 0), ("open", 0)), [-2])

    def test_asking_changes_nothing(self):
        bill = bill_of(*TWO, ("pay", 0, 3))
        before = picture(bill)
        self.assertEqual(tell(bill, ("open", 0), ("open", 0), "sums"), [[0, 897], [0, 897], [0, 2700, 3]])
        self.assertEqual(picture(bill), before)

    def test_the_last_of_forty(self):
        calls = [("begin", 0, 0), ("item", 50, 1, 0)]
        for done in range(1, 41):
            calls += [("measure", 0, done), "certify"]
        told = run(*calls, ("open", 39), ("open", 40), ("pay", 40, 1), ("pay", 39, 1), ("split", 40), "sums")
        self.assertEqual(told[-6:], [[0, 1], [-2], [-2], [0, 0], [-2], [0, 40, 1]])


class Sums(unittest.TestCase):
    def test_what_is_certified_then_what_is_paid(self):
        self.assertEqual(last(("begin", 0, 0), "sums"), [0, 0, 0])
        self.assertEqual(last(*TWO, "sums"), [0, 2700, 0])
        self.assertEqual(last(*TWO, ("pay", 1, 7), "sums"), [0, 2700, 7])

    def test_what_is_measured_alone_is_in_neither(self):
        self.assertEqual(last(*TWO, ("measure", 0, 50), "sums"), [0, 2700, 0])
        self.assertEqual(last(*TWO, ("measure", 0, 0), "sums"), [0, 2700, 0])


if __name__ == "__main__":
    unittest.main()
