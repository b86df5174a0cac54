"""Lines of calls by their names, and their answers taken apart."""

from measuredpay import bills

NAMES = ("begin", "item", "change", "measure", "value", "contract", "left", "kept", "due", "certify")

GREATEST = 4294967295


def flat(calls):
    """The list that is handed in for calls like ("begin", 50, 30) or "value"."""
    numbers = []
    for call in calls:
        words = (call,) if isinstance(call, str) else call
        numbers.append(NAMES.index(words[0]))
        numbers.extend(words[1:])
    return numbers


def apart(told):
    """Each call's answer as a list of its own."""
    found = []
    at = 0
    while at < len(told):
        behind = at + 1 + told[at]
        found.append(told[at + 1:behind])
        at = behind
    assert at == len(told), "the last answer is cut short"
    return found


def run(*calls):
    """The answers to all the calls on one new bill."""
    return apart(bills.answers(flat(calls)))


def last(*calls):
    """The last call's answer."""
    return run(*calls)[-1]


def tell(bill, *calls):
    """The answers to calls on a bill that goes on from where it is."""
    return [bills.answer(bill, numbers[0], numbers[1:]) for numbers in [flat([call]) for call in calls]]


def picture(bill):
    """All that a bill holds, as plain values, to see whether something changed."""
    held = dict(vars(bill))
    held["entries"] = [dict(vars(entry)) for entry in bill.entries]
    held["certificates"] = [(c.amount, list(c.parts), c.paid) for c in bill.certificates]
    return held


def handed_over(*calls):
    """A bill on which these calls were made and that was handed over then."""
    bill = bills.Bill()
    tell(bill, *calls)
    bill.handed = True
    return bill
