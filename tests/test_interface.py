"""The interface: what is handed in, what is given back, and what is not kept."""

import unittest

from measuredpay.bills import Bill, answers
from tests.lines import GREATEST, drawn_call, flat, numbers_below, picture, tell

LINE = (
    ("begin", 100, 50),
    ("item", 100, 1000, 2),
    ("measure", 0, 60),
    "value",
    "contract",
    "left",
    "kept",
    "due",
    "certify",
    ("change", 0, 60),
    ("change", 0, 59),
    "certify",
    "certify",
    ("pay", 0, 5000),
    ("open", 0),
    ("split", 1),
    ("trade", 2),
    "hand",
    "close",
    "sums",
    ("look", 0),
    "state",
)


class Interface(unittest.TestCase):
    def test_each_answer_stands_behind_its_length(self):
        self.assertEqual(answers([0, 100, 50]), [1, 0])
        self.assertEqual(answers([4]), [1, -11])
        self.assertEqual(
            answers(flat(LINE)),
            [1, 0, 1, 0, 1, 0]
            + [2, 0, 60000, 2, 0, 100000, 2, 0, 40000, 2, 0, 5000, 2, 0, 55000]
            + [2, 0, 55000, 1, 100, 1, -33, 2, 1, 2000, 1, -6]
            + [2, 0, 50000, 2, 0, 50000, 5, 0, 0, 0, 2000, 0, 3, 0, 60000, 57000, 2, 0, 1500, 2, 0, 3000]
            + [3, 0, 57000, 5000, 5, 0, 60, 1000, 60, 2, 4, 1, 2, 1, 1],
        )

    def test_the_numbers_of_the_calls(self):
        self.assertEqual(
            answers([0, 200, 100, 1, 9, 1000, 3, 2, 0, 8, 3, 0, 5, 4, 5, 6, 7, 8, 9]),
            [1, 0, 1, 0, 1, 9, 1, 0, 2, 0, 5000, 2, 0, 8000, 2, 0, 3000, 2, 0, 800, 2, 0, 4200, 2, 0, 4200],
        )
        self.assertEqual(
            answers([0, 200, 200, 1, 5, 10, 3, 3, 0, 5, 9, 10, 0, 15, 11, 0, 12, 0, 13, 3, 14, 15, 16, 17, 0, 18]),
            [1, 0, 1, 0, 1, 0, 2, 0, 40, 2, 0, 25, 2, 0, 25, 5, 0, 0, 0, 0, 40, 3, 0, 50, 40]
            + [2, 0, 5, 2, 0, 10, 3, 0, 40, 15, 5, 0, 5, 10, 5, 3, 4, 1, 1, 1, 1],
        )

    def test_a_number_below_0_behind_another_is_no_refusal(self):
        line = [0, 0, 0, 1, 9, 1, 0, 1, 9, 1, 3, 3, 0, 5, 9, 3, 0, 0, 3, 1, 6, 9, 12, 1, 4]
        self.assertEqual(answers(line), [1, 0, 1, 0, 1, 1, 1, 0, 2, 0, 5, 1, 5, 1, 0, 2, 1, 1, 5, 0, -5, 0, 0, 6, 2, 0, 6])

    def test_every_argument_may_be_the_greatest(self):
        n = GREATEST
        self.assertEqual(
            answers([0, 0, 0, 0, n, n, 1, n, n, n, 2, n, n, 3, n, n, 10, n, n, 11, n, 12, n, 13, n, 17, n]),
            [1, 0, 1, -22, 1, -22, 1, -2, 1, -2, 1, -2, 1, -2, 1, -2, 1, -22, 1, -2],
        )

    def test_a_refused_call_takes_its_arguments_too(self):
        self.assertEqual(
            answers([1, 4, 4, 4, 2, 4, 4, 3, 4, 4, 0, 201, 4, 4]),
            [1, -11, 1, -11, 1, -11, 1, -22, 1, -11],
        )
        self.assertEqual(answers([10, 4, 4, 11, 4, 12, 4, 13, 4, 17, 4, 14, 15, 16, 18]), [1, -11] * 9)
        self.assertEqual(
            answers([0, 0, 0, 10, 5, 5, 11, 5, 12, 5, 13, 5, 17, 5, 18]),
            [1, 0, 1, -2, 1, -2, 1, -2, 1, -22, 1, -2, 4, 0, 0, 0, 0],
        )

    def test_a_hundred_and_twenty_calls(self):
        calls = [0, 0, 0] + [1, 2, 3, 0] * 10 + [3, 9, 2] * 9 + [4] * 100
        self.assertEqual(answers(calls)[-300:], [2, 0, 6] * 100)

    def test_what_is_handed_in_stays_as_it_was(self):
        calls = flat(LINE)
        before = list(calls)
        answers(calls)
        self.assertEqual(calls, before)

    def test_what_is_handed_in_is_never_written_to(self):
        class Guarded(list):
            def refuse(self, *unused):
                raise AssertionError("the list that was handed in is changed")

            append = extend = insert = pop = remove = clear = sort = reverse = refuse
            __setitem__ = __delitem__ = __iadd__ = __imul__ = refuse

        self.assertEqual(answers(Guarded(flat(LINE))), answers(flat(LINE)))

    def test_a_second_time_answers_as_the_first(self):
        calls = flat(LINE)
        first = answers(calls)
        kept = list(first)
        self.assertEqual(answers(calls), kept)
        first.clear()
        self.assertEqual(answers(calls), kept)
        self.assertEqual(answers([4]), [1, -11])

    def test_plain_whole_numbers_in_a_plain_list(self):
        told = answers(flat(LINE))
        self.assertIs(type(told), list)
        self.assertEqual({type(number) for number in told}, {int})


class AllSorts(unittest.TestCase):
    def test_a_refusal_is_one_number_and_changes_nothing(self):
        met = set()
        for seed in range(200):
            draw = numbers_below(seed)
            bill = Bill()
            for step in range(100):
                call = drawn_call(draw)
                before = picture(bill)
                told = tell(bill, call)[0]
                if told[0] < 0:
                    met.add((call[0], told[0]))
                    self.assertEqual(len(told), 1)
                    self.assertEqual(picture(bill), before)
        self.assertLessEqual(
            {
                ("begin", -22), ("item", -22), ("item", -16), ("item", -28), ("change", -2), ("change", -22), ("change", -16),
                ("change", -33), ("measure", -2), ("measure", -16), ("measure", -33), ("certify", -6), ("pay", -2),
                ("pay", -22), ("open", -2), ("split", -2), ("trade", -22), ("hand", -17), ("hand", -33), ("close", -17),
                ("close", -13), ("look", -2),
            },
            met,
        )


if __name__ == "__main__":
    unittest.main()
