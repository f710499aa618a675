"""One node: its home, the desks of its flights, the requests done, and its journal."""

from bookinghouse.desk import Desk
from bookinghouse.home import Home
from bookinghouse.messages import is_for_home

MOST_DOINGS = 60


class Memory:
    """What a node knew at one time: all that is set back when doings are lost."""

    def __init__(self, home, desks, requests):
        self.home = home
        self.desks = desks
        self.requests = requests


class Doing:
    """A doing that isn't sure: what the node knew before it, and what it has to say."""

    def __init__(self, before, unsaid):
        self.before = before
        self.unsaid = unsaid


class Node:
    """What a node keeps; the doings that aren't sure stand in the journal."""

    def __init__(self, number, plans):
        self.home = Home(number, plans)
        self.desks = {}
        self.requests = {}
        self.sure_doings = 0
        self.unsure = []

    def add_desk(self, flight, price, seats, over):
        self.desks[flight] = Desk(flight, price, seats, over)

    def doings(self):
        return self.sure_doings + len(self.unsure)

    def is_full(self):
        return self.doings() == MOST_DOINGS

    def remember(self):
        """What the node knows now, untouched by what is done later."""
        twins = {}
        for flight, desk in self.desks.items():
            twins[flight] = desk.twin()
        done = {}
        for request, answer in self.requests.items():
            done[request] = answer
        return Memory(self.home.twin(), twins, done)

    def book(self, request, account, seats, choices):
        before = self.remember()
        answer = len(self.home.bookings)
        unsaid = self.home.book(account, seats, choices)
        self.requests[request] = answer
        self.unsure.append(Doing(before, unsaid))
        return answer

    def cancel(self, request, b):
        before = self.remember()
        answer = self.home.refund(b)
        unsaid = self.home.cancel(b)
        self.requests[request] = answer
        self.unsure.append(Doing(before, unsaid))
        return answer

    def cut(self, flight, seats):
        before = self.remember()
        unsaid = self.desks[flight].cut(seats)
        self.unsure.append(Doing(before, unsaid))
        return len(unsaid)

    def heeds(self, message):
        """Whether the message, read now, would change something."""
        if is_for_home(message):
            return self.home.heeds(message)
        return self.desks[message.flight].heeds(message)

    def read(self, message):
        """Read a message that is heeded."""
        before = self.remember()
        if is_for_home(message):
            unsaid = self.home.read(message)
        else:
            unsaid = self.desks[message.flight].read(message)
        self.unsure.append(Doing(before, unsaid))

    def lose(self, n):
        """Of the doings that aren't sure keep the first n; the others were never done."""
        if n >= len(self.unsure):
            return
        before = self.unsure[n].before
        self.home = before.home
        self.desks = before.desks
        self.requests = before.requests
        self.unsure = self.unsure[:n]

    def make_sure(self):
        """Keep for good all that was done; answers what goes out on the wire, in order."""
        going_out = []
        for doing in self.unsure:
            going_out.extend(doing.unsaid)
        self.sure_doings += len(self.unsure)
        self.unsure = []
        return going_out
