"""Accounts and bookings, at their home."""

from bookinghouse.messages import (
    Message, SAY_BUMPED, SAY_FREE, SAY_FULL, SAY_GIVE_BACK, SAY_HELD, SAY_HOLD, SAY_TAKE)

ASKED = 0
CONFIRMED = 1
FAILED = 2
CANCELLED = 3


class Plan:
    """What all nodes know of a flight."""

    def __init__(self, node, price):
        self.node = node
        self.price = price


class Booking:
    """A journey that is asked for; behind the last choice it is at none."""

    def __init__(self, account, seats, choices):
        self.account = account
        self.seats = seats
        self.choices = choices
        self.choice = 0
        self.attempts = 0
        self.noted = []
        self.standing = ASKED

    def twin(self):
        """The booking as it is now, untouched by what is done to this one later."""
        other = Booking(self.account, self.seats, self.choices)
        other.choice = self.choice
        other.attempts = self.attempts
        other.noted = list(self.noted)
        other.standing = self.standing
        return other


class Home:
    """One node's accounts, the bookings made from them, and the fees it keeps."""

    def __init__(self, number, plans):
        self.number = number
        self.plans = plans
        self.moneys = []
        self.fees = 0
        self.bookings = []

    def twin(self):
        """The home as it is now, untouched by what is done to this one later."""
        other = Home(self.number, self.plans)
        other.moneys = list(self.moneys)
        other.fees = self.fees
        other.bookings = [booking.twin() for booking in self.bookings]
        return other

    def book(self, account, seats, choices):
        """Make a booking and try it; answers what is to be said."""
        self.bookings.append(Booking(account, seats, choices))
        return self.try_from(len(self.bookings) - 1, 0)

    def cost(self, booking):
        """What the choice costs that the booking is at."""
        flights = booking.choices[booking.choice]
        return sum([self.plans[flight].price for flight in flights]) * booking.seats

    def can_pay(self, booking):
        return self.cost(booking) <= self.moneys[booking.account]

    def try_from(self, b, choice):
        booking = self.bookings[b]
        booking.noted = []
        booking.choice = choice
        while booking.choice < len(booking.choices) and not self.can_pay(booking):
            booking.choice += 1
        if booking.choice == len(booking.choices):
            booking.standing = FAILED
            return []
        booking.attempts += 1
        booking.standing = ASKED
        self.moneys[booking.account] -= self.cost(booking)
        return self.word_flights(b, SAY_HOLD)

    def word_flights(self, b, says):
        booking = self.bookings[b]
        attempt = (self.number, b, booking.attempts)
        flights = booking.choices[booking.choice]
        return [Message(self.plans[flight].node, says, attempt, flight, booking.seats) for flight in flights]

    def refund(self, b):
        """How much is had back when the booking is cancelled."""
        cost = self.cost(self.bookings[b])
        return cost - self.fee(b)

    def fee(self, b):
        booking = self.bookings[b]
        return min(booking.seats, self.cost(booking))

    def cancel(self, b):
        """Cancel a booking that is confirmed; answers what is to be said."""
        booking = self.bookings[b]
        self.moneys[booking.account] += self.refund(b)
        self.fees += self.fee(b)
        booking.standing = CANCELLED
        return self.word_flights(b, SAY_GIVE_BACK)

    def heeds(self, message):
        """Whether the message, read now, would change something."""
        booking = self.bookings[message.attempt[1]]
        if message.attempt[2] != booking.attempts:
            return False
        if message.says == SAY_BUMPED:
            return booking.standing == CONFIRMED
        if message.says == SAY_FULL:
            return booking.standing == ASKED
        return booking.standing == ASKED and message.flight not in booking.noted

    def read(self, message):
        """Do what a message that is heeded asks; answers what is to be said."""
        b = message.attempt[1]
        if message.says == SAY_HELD:
            return self.note_held(b, message.flight)
        if message.says == SAY_FULL:
            return self.leave_choice(b, SAY_FREE)
        return self.leave_choice(b, SAY_GIVE_BACK)

    def note_held(self, b, flight):
        booking = self.bookings[b]
        booking.noted.append(flight)
        if len(booking.noted) < len(booking.choices[booking.choice]):
            return []
        booking.standing = CONFIRMED
        return self.word_flights(b, SAY_TAKE)

    def leave_choice(self, b, says):
        booking = self.bookings[b]
        said = self.word_flights(b, says)
        self.moneys[booking.account] += self.cost(booking)
        return said + self.try_from(b, booking.choice + 1)
