"""What the tests share: calls as lists of numbers, houses made ready, and a house's whole state as plain values."""

from bookinghouse.cluster import answers
from bookinghouse.house import House

GREATEST = 4294967295


def start(k):
    return [0, k]


def flight(d, price, seats, over):
    return [1, d, price, seats, over]


def account(d, money):
    return [2, d, money]


def book(d, client, number, from_account, seats, choices):
    row = []
    for flights in choices:
        row += [len(flights)] + flights
    return [3, d, client, number, from_account, seats, len(row)] + row


def cancel(d, client, number, booking):
    return [4, d, client, number, booking]


def cut(d, of_flight, seats):
    return [5, d, of_flight, seats]


def wire(m):
    return [6, m]


def sure(d):
    return [7, d]


def power(d, n):
    return [8, d, n]


def quiet():
    return [9]


def booking(d, b):
    return [10, d, b]


def board(of_flight):
    return [11, of_flight]


def money(d):
    return [12, d]


def messages(m):
    return [13, m]


def ask_lists(*calls):
    """The list of numbers that each of the calls is answered, on one new cluster."""
    given = answers([number for call in calls for number in call])
    told = []
    at = 0
    while at < len(given):
        told.append(given[at + 1:at + 1 + given[at]])
        at += 1 + given[at]
    if at != len(given) or len(told) != len(calls):
        raise AssertionError(f"not one answer for each call: {given}")
    return told


def ask(*calls):
    """The one number that each of the calls is answered, on one new cluster."""
    given = answers([number for call in calls for number in call])
    counts = given[0::2]
    if len(given) != 2 * len(calls) or counts != [1] * len(calls):
        raise AssertionError(f"not one number for each call: {given}")
    return given[1::2]


def picture(thing):
    """All that an object holds, as plain values, to tell whether anything changed."""
    if isinstance(thing, (list, tuple)):
        return [picture(part) for part in thing]
    if isinstance(thing, dict):
        return [(key, picture(value)) for key, value in thing.items()]
    if hasattr(thing, "__dict__"):
        return picture(vars(thing))
    return thing


def make_house(nodes, flights, accounts):
    """A house with flights (d, price, seats, over) and accounts (d, money)."""
    house = House()
    house.start(nodes)
    for d, price, seats, over in flights:
        house.add_flight(d, price, seats, over)
    for d, money in accounts:
        house.add_account(d, money)
    return house


def make_all_sure(house):
    for d in range(len(house.nodes)):
        house.make_sure(d)


def read_all(house):
    """Make sure and read all messages, again and again, till nothing changes."""
    changed = True
    while changed:
        make_all_sure(house)
        changed = any([house.read_wire(m) == 1 for m in range(len(house.wire))])


def fill_with_cuts(house, d, of_flight, seats):
    while not house.nodes[d].is_full():
        house.cut(d, of_flight, seats)


def messages_of(house, first=0):
    """The wire from one number on: to which node, what it says, home, booking, try, flight, seats."""
    return [(m.node, m.says) + m.attempt + (m.flight, m.seats) for m in house.wire[first:]]


def unsaid_of(house, d):
    """What waits at a node to be said, doing by doing: to which node, what it says, the try, the flight."""
    return [[(m.node, m.says, m.attempt[2], m.flight) for m in doing.unsaid] for doing in house.nodes[d].unsure]


def entries_of(house, d, of_flight):
    """A flight's entries: home, booking, try, seats, what became of it."""
    return [e.attempt + (e.seats, e.fate) for e in house.nodes[d].desks[of_flight].entries]
