"""The cluster, and the calls that do something on it; a refusal is a number below 0."""

from bookinghouse.home import CONFIRMED, Plan
from bookinghouse.node import Node

WRONG_VALUE = -1
NO_SUCH_NODE = -2
NOT_THERE = -3
TOO_LATE = -4
NO_ROOM = -5
NOT_CONFIRMED = -6
TOO_MANY_BOOKINGS = -7

FIRST_NODES = 2
LEAST_NODES = 2
MOST_NODES = 4
MOST_FLIGHTS = 6
MOST_ACCOUNTS = 4
MOST_BOOKINGS = 10
MOST_PRICE = 99
MOST_SEATS = 20
MOST_OVER = 9
MOST_MONEY = 9999
LAST_CLIENT = 3
MOST_BOOKED_SEATS = 9
MOST_CHOICES = 3
MOST_FLIGHTS_OF_CHOICE = 3
MOST_ROUNDS = 30


class House:
    """Nodes, what all of them know of the flights, and the wire between them."""

    def __init__(self):
        self.begin(FIRST_NODES)

    def begin(self, k):
        self.plans = []
        self.wire = []
        self.nodes = [Node(d, self.plans) for d in range(k)]

    def start(self, k):
        if k < LEAST_NODES or k > MOST_NODES:
            return WRONG_VALUE
        self.begin(k)
        return k

    def has_node(self, d):
        return d < len(self.nodes)

    def something_done(self):
        return any([node.doings() > 0 for node in self.nodes])

    def add_flight(self, d, price, seats, over):
        if not self.has_node(d):
            return NO_SUCH_NODE
        if price > MOST_PRICE or seats > MOST_SEATS or over > MOST_OVER:
            return WRONG_VALUE
        if self.something_done():
            return TOO_LATE
        flight = len(self.plans)
        if flight == MOST_FLIGHTS:
            return NO_ROOM
        self.plans.append(Plan(d, price))
        self.nodes[d].add_desk(flight, price, seats, over)
        return flight

    def add_account(self, d, money):
        if not self.has_node(d):
            return NO_SUCH_NODE
        if money > MOST_MONEY:
            return WRONG_VALUE
        if self.something_done():
            return TOO_LATE
        moneys = self.nodes[d].home.moneys
        if len(moneys) == MOST_ACCOUNTS:
            return NO_ROOM
        moneys.append(money)
        return len(moneys) - 1

    def early_answer(self, d, client, number):
        """What a request is answered, whatever it asks for; None if it is to be looked into."""
        if not self.has_node(d) or client > LAST_CLIENT:
            return NO_SUCH_NODE
        node = self.nodes[d]
        if (client, number) in node.requests:
            return node.requests[(client, number)]
        if node.is_full():
            return NO_ROOM
        return None

    def book(self, d, client, number, account, seats, choices):
        early = self.early_answer(d, client, number)
        if early is not None:
            return early
        node = self.nodes[d]
        if account >= len(node.home.moneys) or seats < 1 or seats > MOST_BOOKED_SEATS:
            return WRONG_VALUE
        if not self.are_choices(choices):
            return WRONG_VALUE
        if len(node.home.bookings) == MOST_BOOKINGS:
            return TOO_MANY_BOOKINGS
        return node.book((client, number), account, seats, choices)

    def are_choices(self, choices):
        if len(choices) < 1 or len(choices) > MOST_CHOICES:
            return False
        return all([self.is_choice(flights) for flights in choices])

    def is_choice(self, flights):
        if len(flights) < 1 or len(flights) > MOST_FLIGHTS_OF_CHOICE:
            return False
        if len(set(flights)) != len(flights):
            return False
        return all([flight < len(self.plans) for flight in flights])

    def cancel(self, d, client, number, b):
        early = self.early_answer(d, client, number)
        if early is not None:
            return early
        node = self.nodes[d]
        if b >= len(node.home.bookings):
            return NOT_THERE
        if node.home.bookings[b].standing != CONFIRMED:
            return NOT_CONFIRMED
        return node.cancel((client, number), b)

    def cut(self, d, flight, seats):
        if not self.has_node(d):
            return NO_SUCH_NODE
        node = self.nodes[d]
        if flight not in node.desks:
            return NOT_THERE
        if seats > MOST_SEATS:
            return WRONG_VALUE
        if node.is_full():
            return NO_ROOM
        return node.cut(flight, seats)

    def read_wire(self, m):
        if m >= len(self.wire):
            return NOT_THERE
        message = self.wire[m]
        node = self.nodes[message.node]
        if not node.heeds(message):
            return 0
        if node.is_full():
            return NO_ROOM
        node.read(message)
        return 1

    def make_sure(self, d):
        """Keep for good what was done at a node, and send out what it has to say."""
        self.wire.extend(self.nodes[d].make_sure())

    def tally(self, d):
        return [self.nodes[d].doings(), len(self.wire)]

    def sure(self, d):
        if not self.has_node(d):
            return [NO_SUCH_NODE]
        self.make_sure(d)
        return self.tally(d)

    def power(self, d, n):
        if not self.has_node(d):
            return [NO_SUCH_NODE]
        self.nodes[d].lose(n)
        self.make_sure(d)
        return self.tally(d)

    def quiet(self):
        changed = 0
        for turn in range(MOST_ROUNDS):
            changed_now = self.do_round()
            changed += changed_now
            if changed_now == 0:
                break
        return [changed, len(self.wire)]

    def do_round(self):
        """Make all sure, then read the wire; answers how many messages changed something."""
        for d in range(len(self.nodes)):
            self.make_sure(d)
        changed = 0
        # Nothing goes out while messages are read, so the wire is as long at the end as it is here.
        for m in range(len(self.wire)):
            if self.read_wire(m) == 1:
                changed += 1
        return changed
