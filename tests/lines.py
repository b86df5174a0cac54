"""Lines of calls by their names, and their answers taken apart."""

from measuredpay import bills

# In the order of the calls' numbers.
NAMES = (
    "begin", "item", "change", "measure", "value", "contract", "left", "kept", "due", "certify",
    "pay", "open", "split", "trade", "hand", "close", "sums", "look", "state",
)

GREATEST = 4294967295


def flat(calls):
    """The list that is handed in for calls like ("begin", 50, 30) or "value"."""
    numbers = []
    for call in calls:
        words = (call,) if isinstance(call, str) else call
        numbers.append(NAMES.index(words[0]))
        numbers.extend(words[1:])
    return numbers


def apart(told):
    """Each call's answer as a list of its own."""
    found = []
    at = 0
    while at < len(told):
        behind = at + 1 + told[at]
        found.append(told[at + 1:behind])
        at = behind
    assert at == len(told), "the last answer is cut short"
    return found


def run(*calls):
    """The answers to all the calls on one new bill."""
    return apart(bills.answers(flat(calls)))


def last(*calls):
    """The last call's answer."""
    return run(*calls)[-1]


def tell(bill, *calls):
    """The answers to calls on a bill that goes on from where it is."""
    return [bills.answer(bill, numbers[0], numbers[1:]) for numbers in [flat([call]) for call in calls]]


def picture(bill):
    """All that a bill holds, as plain values, to see whether something changed."""
    held = dict(vars(bill))
    held["entries"] = [dict(vars(entry)) for entry in bill.entries]
    held["certificates"] = [(c.amount, list(c.parts), c.paid) for c in bill.certificates]
    return held


def bill_of(*calls):
    """A bill on which these calls were made."""
    bill = bills.Bill()
    tell(bill, *calls)
    return bill


def handed_over(*calls):
    """A bill on which these calls were made and that was handed over then."""
    bill = bill_of(*calls)
    assert tell(bill, "hand")[0][0] == 0, "it could not be handed over"
    return bill


def numbers_below(seed):
    """A run of numbers that is the same each time, for lines of all sorts."""
    held = [seed]

    def draw(limit):
        held[0] = (held[0] * 1103515245 + 12345) % 2147483648
        return (held[0] >> 8) % limit

    return draw


# How often each call is drawn, by its number.
OFTEN = (1, 12, 4, 12, 1, 1, 1, 1, 1, 6, 5, 1, 2, 2, 3, 3, 1, 1, 1)
DRAWN = [name for name, often in zip(NAMES, OFTEN) for n in range(often)]


def drawn_call(draw):
    """Any of the calls, with arguments within their ranges and without."""
    name = DRAWN[draw(len(DRAWN))]
    if name == "begin":
        return (name, (0, 1, 100, 200, 201)[draw(5)], (0, 50, 133, 200, GREATEST)[draw(5)])
    if name == "item":
        return (name, (0, 1, 3, 9, 10000, 10001)[draw(6)], (0, 1, 7, 1000, 777777, 1000001)[draw(6)], draw(40) % 9 % 5)
    if name in ("change", "measure"):
        return (name, draw(5), (0, 0, 1, 1, 2, 3, 9, 10001)[draw(8)])
    if name == "pay":
        return (name, draw(4), (0, 1, 2, 7, 1000, GREATEST)[draw(6)])
    if name in ("open", "split", "trade", "look"):
        return (name, draw(6))
    return (name,)
