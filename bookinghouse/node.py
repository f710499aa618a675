"""One node: its home, the desks of its flights, the requests done, and its journal."""

from bookinghouse.desk import Desk
from bookinghouse.home import Home
from bookinghouse.messages import is_for_home

MOST_DOINGS = 60


class Node:
    """What a node keeps; each doing that isn't sure stands in the journal with what it has to say."""

    def __init__(self, number, plans):
        self.home = Home(number, plans)
        self.desks = {}
        self.requests = {}
        self.sure_doings = 0
        self.unsure = []

    def add_desk(self, flight, price, seats, over):
        self.desks[flight] = Desk(flight, price, seats, over)

    def doings(self):
        return self.sure_doings + len(self.unsure)

    def is_full(self):
        return self.doings() == MOST_DOINGS

    def book(self, request, account, seats, choices):
        answer = len(self.home.bookings)
        self.unsure.append(self.home.book(account, seats, choices))
        self.requests[request] = answer
        return answer

    def cancel(self, request, b):
        answer = self.home.refund(b)
        self.unsure.append(self.home.cancel(b))
        self.requests[request] = answer
        return answer

    def cut(self, flight, seats):
        said = self.desks[flight].cut(seats)
        self.unsure.append(said)
        return len(said)

    def heeds(self, message):
        """Whether the message, read now, would change something."""
        if is_for_home(message):
            return self.home.heeds(message)
        return self.desks[message.flight].heeds(message)

    def read(self, message):
        """Read a message that is heeded."""
        if is_for_home(message):
            self.unsure.append(self.home.read(message))
        else:
            self.unsure.append(self.desks[message.flight].read(message))

    def make_sure(self):
        """Keep for good all that was done; answers what goes out on the wire, in order."""
        going_out = []
        for said in self.unsure:
            going_out.extend(said)
        self.sure_doings += len(self.unsure)
        self.unsure = []
        return going_out
