"""The interface: what is handed in, what is given back, and what is not kept."""

import unittest

from measuredpay.bills import Bill, answers
from tests.lines import GREATEST, NAMES, flat, picture, tell

LINE = (
    ("begin", 100, 50),
    ("item", 100, 1000, 2),
    ("measure", 0, 60),
    "value",
    "contract",
    "left",
    "kept",
    "due",
    "certify",
    ("change", 0, 60),
    ("change", 0, 59),
    "certify",
    "certify",
)


def numbers_below(seed):
    """A run of numbers that is the same each time, for lines of all sorts."""
    state = [seed]

    def draw(limit):
        state[0] = (state[0] * 1103515245 + 12345) % 2147483648
        return (state[0] >> 8) % limit

    return draw


def drawn_call(draw):
    name = NAMES[(0, 1, 1, 1, 1, 1, 2, 2, 3, 3, 3, 3, 9, 9, 9, 4, 7, 8)[draw(18)]]
    if name == "begin":
        return (name, (0, 100, 200, 201)[draw(4)], (0, 50, 200, GREATEST)[draw(4)])
    if name == "item":
        return (name, (3, 9, 10000, 10001)[draw(4)], (0, 7, 1000, 777777, 1000001)[draw(5)], draw(5))
    if name in ("change", "measure"):
        return (name, draw(5), (0, 1, 2, 3, 7, 10001)[draw(6)])
    return (name,)


class Interface(unittest.TestCase):
    def test_each_answer_stands_behind_its_length(self):
        self.assertEqual(answers([0, 100, 50]), [1, 0])
        self.assertEqual(answers([4]), [1, -11])
        self.assertEqual(
            answers(flat(LINE)),
            [1, 0, 1, 0, 1, 0]
            + [2, 0, 60000, 2, 0, 100000, 2, 0, 40000, 2, 0, 5000, 2, 0, 55000]
            + [2, 0, 55000, 1, 100, 1, -33, 2, 1, 2000, 1, -6],
        )

    def test_the_numbers_of_the_calls(self):
        self.assertEqual(
            answers([0, 200, 100, 1, 9, 1000, 3, 2, 0, 8, 3, 0, 5, 4, 5, 6, 7, 8, 9]),
            [1, 0, 1, 0, 1, 9, 1, 0, 2, 0, 5000, 2, 0, 8000, 2, 0, 3000, 2, 0, 800, 2, 0, 4200, 2, 0, 4200],
        )

    def test_every_argument_may_be_the_greatest(self):
        n = GREATEST
        self.assertEqual(
            answers([0, 0, 0, 0, n, n, 1, n, n, n, 2, n, n, 3, n, n]),
            [1, 0, 1, -22, 1, -22, 1, -2, 1, -2],
        )

    def test_a_refused_call_takes_its_arguments_too(self):
        self.assertEqual(
            answers([1, 4, 4, 4, 2, 4, 4, 3, 4, 4, 0, 201, 4, 4]),
            [1, -11, 1, -11, 1, -11, 1, -22, 1, -11],
        )

    def test_a_hundred_and_twenty_calls(self):
        calls = [0, 0, 0] + [1, 2, 3, 0] * 10 + [3, 9, 2] * 9 + [4] * 100
        self.assertEqual(answers(calls)[-300:], [2, 0, 6] * 100)

    def test_what_is_handed_in_stays_as_it_was(self):
        calls = flat(LINE)
        before = list(calls)
        answers(calls)
        self.assertEqual(calls, before)

    def test_what_is_handed_in_is_never_written_to(self):
        class Guarded(list):
            def refuse(self, *unused):
                raise AssertionError("the list that was handed in is changed")

            append = extend = insert = pop = remove = clear = sort = reverse = refuse
            __setitem__ = __delitem__ = __iadd__ = __imul__ = refuse

        self.assertEqual(answers(Guarded(flat(LINE))), answers(flat(LINE)))

    def test_a_second_time_answers_as_the_first(self):
        calls = flat(LINE)
        first = answers(calls)
        kept = list(first)
        self.assertEqual(answers(calls), kept)
        first.clear()
        self.assertEqual(answers(calls), kept)
        self.assertEqual(answers([4]), [1, -11])

    def test_plain_whole_numbers_in_a_plain_list(self):
        told = answers(flat(LINE))
        self.assertIs(type(told), list)
        self.assertEqual({type(number) for number in told}, {int})


class AllSorts(unittest.TestCase):
    def test_a_refusal_is_one_number_and_changes_nothing(self):
        met = set()
        for seed in range(200):
            draw = numbers_below(seed)
            bill = Bill()
            for step in range(100):
                call = drawn_call(draw)
                before = picture(bill)
                told = tell(bill, call)[0]
                if told[0] < 0:
                    met.add((call[0], told[0]))
                    self.assertEqual(len(told), 1)
                    self.assertEqual(picture(bill), before)
        for refusal in (("begin", -22), ("item", -28), ("change", -33), ("measure", -33), ("certify", -6)):
            self.assertIn(refusal, met)

    def test_what_is_certified_was_measured_less_what_is_kept(self):
        certified = 0
        for seed in range(200):
            draw = numbers_below(seed)
            bill = Bill()
            for step in range(100):
                call = drawn_call(draw)
                told = tell(bill, call)[0]
                if call[0] == "certify" and told[0] >= 0:
                    certified += 1
                    amounts = [c.amount for c in bill.certificates]
                    self.assertEqual(told, [len(amounts) - 1, amounts[-1]])
                    self.assertGreater(amounts[-1], 0)
                    self.assertEqual(sum(amounts), bill.value() - bill.kept())
                    self.assertEqual(sum(bill.certificates[-1].parts), amounts[-1])
        self.assertGreater(certified, 200)


if __name__ == "__main__":
    unittest.main()
