"""The bill: what is ordered and measured, what is kept back, certified and paid, till it is closed."""

MOST_ITEMS = 10
MOST_CERTIFICATES = 40
MOST_ORDERED = 10000
MOST_RATE = 1000000
MOST_PER_THOUSAND = 200
TRADES = 4

BEGIN = 0

NO_SUCH = -2
NOTHING_DUE = -6
NOT_BEGUN = -11
NOT_HANDED_OVER = -13
HANDED_OVER = -16
ALREADY = -17
OUT_OF_RANGE = -22
FULL = -28
AT_ODDS = -33


class Item:
    """So many of one thing, at so much each, and how many of them are done."""

    def __init__(self, ordered, rate, trade):
        self.ordered = ordered
        self.rate = rate
        self.trade = trade
        self.done = 0


class Certificate:
    """What was certified at once, what each trade got by it, and what is paid of it."""

    def __init__(self, amount, parts):
        self.amount = amount
        self.parts = parts
        self.paid = 0

    def unpaid(self):
        return self.amount - self.paid


class Bill:
    """All that one line of calls works on."""

    def __init__(self):
        self.start(0, 0)
        self.begun = False

    def start(self, keep, most):
        self.begun = True
        self.keep = keep
        self.most = most
        self.entries = []
        self.certificates = []
        self.handed = False
        self.closed = False

    def has_item(self, i):
        return i < len(self.entries)

    def has_certificate(self, n):
        return n < len(self.certificates)

    def all_done(self):
        return all([entry.done == entry.ordered for entry in self.entries])

    def value(self):
        return sum([entry.done * entry.rate for entry in self.entries])

    def contract(self):
        return sum([entry.ordered * entry.rate for entry in self.entries])

    def kept(self):
        if self.closed:
            return 0
        of_value = self.value() * self.keep // 1000
        of_contract = self.contract() * self.most // 1000
        whole = min(of_value, of_contract)
        return whole // 2 if self.handed else whole

    def owed(self):
        return self.value() - self.kept()

    def certified(self):
        return sum([certificate.amount for certificate in self.certificates])

    def all_paid(self):
        return sum([certificate.paid for certificate in self.certificates])

    def due(self):
        return max(0, self.owed() - self.certified())

    def trade_value(self, trade):
        return sum([entry.done * entry.rate for entry in self.entries if entry.trade == trade])

    def trade_got(self, trade):
        return sum([certificate.parts[trade] for certificate in self.certificates])


def shares(amount, worths):
    """Divide the amount as the worths are to their sum, which is above 0, to the cent."""
    whole = sum(worths)
    parts = [amount * worth // whole for worth in worths]
    rests = [amount * worth % whole for worth in worths]
    over = amount - sum(parts)
    # Sorting leaves like rests in their order, so the lesser number comes first.
    order = sorted(range(len(worths)), key=lambda t: -rests[t])
    for t in order[:over]:
        parts[t] += 1
    return parts


def parts_by_trade(bill, amount):
    """What each trade gets by a new certificate of the amount, which may be below 0."""
    # The shares are of all that is certified, not of this amount alone, so that
    # what was rounded, or measured too high, earlier is made good here.
    worths = [bill.trade_value(t) for t in range(TRADES)]
    whole_shares = shares(bill.certified() + amount, worths)
    return [whole_shares[t] - bill.trade_got(t) for t in range(TRADES)]


def begin(bill, given):
    keep = given[0]
    most = given[1]
    if keep > MOST_PER_THOUSAND or most > MOST_PER_THOUSAND:
        return [OUT_OF_RANGE]
    bill.start(keep, most)
    return [0]


def item(bill, given):
    ordered = given[0]
    rate = given[1]
    trade = given[2]
    if ordered > MOST_ORDERED or rate > MOST_RATE or trade >= TRADES:
        return [OUT_OF_RANGE]
    if bill.handed:
        return [HANDED_OVER]
    if len(bill.entries) == MOST_ITEMS:
        return [FULL]
    bill.entries.append(Item(ordered, rate, trade))
    return [len(bill.entries) - 1]


def change(bill, given):
    i = given[0]
    ordered = given[1]
    if not bill.has_item(i):
        return [NO_SUCH]
    entry = bill.entries[i]
    if ordered > MOST_ORDERED:
        return [OUT_OF_RANGE]
    if bill.handed:
        return [HANDED_OVER]
    if entry.done > ordered:
        return [AT_ODDS]
    before = entry.ordered
    entry.ordered = ordered
    return [before]


def measure(bill, given):
    i = given[0]
    done = given[1]
    if not bill.has_item(i):
        return [NO_SUCH]
    entry = bill.entries[i]
    if bill.handed:
        return [HANDED_OVER]
    if entry.ordered < done:
        return [AT_ODDS]
    before = entry.done
    entry.done = done
    return [before]


def value(bill, given):
    return [0, bill.value()]


def contract(bill, given):
    return [0, bill.contract()]


def left(bill, given):
    return [0, bill.contract() - bill.value()]


def kept(bill, given):
    return [0, bill.kept()]


def due(bill, given):
    return [0, bill.due()]


def certify(bill, given):
    if len(bill.certificates) == MOST_CERTIFICATES:
        return [FULL]
    amount = bill.due()
    if amount == 0:
        return [NOTHING_DUE]
    bill.certificates.append(Certificate(amount, parts_by_trade(bill, amount)))
    return [len(bill.certificates) - 1, amount]


def pay(bill, given):
    n = given[0]
    cents = given[1]
    if not bill.has_certificate(n):
        return [NO_SUCH]
    certificate = bill.certificates[n]
    if cents == 0 or cents > certificate.unpaid():
        return [OUT_OF_RANGE]
    certificate.paid += cents
    return [0, certificate.unpaid()]


def still_open(bill, given):
    n = given[0]
    if not bill.has_certificate(n):
        return [NO_SUCH]
    return [0, bill.certificates[n].unpaid()]


def split(bill, given):
    n = given[0]
    if not bill.has_certificate(n):
        return [NO_SUCH]
    return [0] + bill.certificates[n].parts


def of_trade(bill, given):
    t = given[0]
    if t >= TRADES:
        return [OUT_OF_RANGE]
    return [0, bill.trade_value(t), bill.trade_got(t)]


def hand(bill, given):
    if bill.handed:
        return [ALREADY]
    if not bill.all_done():
        return [AT_ODDS]
    bill.handed = True
    return [0, bill.due()]


def close(bill, given):
    if bill.closed:
        return [ALREADY]
    if not bill.handed:
        return [NOT_HANDED_OVER]
    bill.closed = True
    return [0, bill.due()]


def sums(bill, given):
    return [0, bill.certified(), bill.all_paid()]


def look(bill, given):
    i = given[0]
    if not bill.has_item(i):
        return [NO_SUCH]
    entry = bill.entries[i]
    return [0, entry.ordered, entry.rate, entry.done, entry.trade]


def state(bill, given):
    handed = 1 if bill.handed else 0
    closed = 1 if bill.closed else 0
    return [len(bill.entries), len(bill.certificates), handed, closed]


# By a call's number: what answers it, and how many arguments it has.
CALLS = (
    (begin, 2),
    (item, 3),
    (change, 2),
    (measure, 2),
    (value, 0),
    (contract, 0),
    (left, 0),
    (kept, 0),
    (due, 0),
    (certify, 0),
    (pay, 2),
    (still_open, 1),
    (split, 1),
    (of_trade, 1),
    (hand, 0),
    (close, 0),
    (sums, 0),
    (look, 1),
    (state, 0),
)


def answer(bill, number, given):
    """What one call answers, number by number."""
    if number != BEGIN and not bill.begun:
        return [NOT_BEGUN]
    return CALLS[number][0](bill, given)


def answers(calls):
    """What a line of calls on a new bill answers, each answer behind its length."""
    bill = Bill()
    told = []
    at = 0
    while at < len(calls):
        number = calls[at]
        behind = at + 1 + CALLS[number][1]
        numbers = answer(bill, number, calls[at + 1:behind])
        told.append(len(numbers))
        told.extend(numbers)
        at = behind
    return told
