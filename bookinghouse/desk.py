"""A flight as its own node keeps it: its seats now, its entries, what it earned."""

from bookinghouse.messages import Message, SAY_BUMPED, SAY_FREE, SAY_FULL, SAY_HELD, SAY_HOLD, SAY_TAKE

UNHEARD = 0
HELD = 1
REFUSED = 2
TAKEN = 3
FREED = 4
BUMPED = 5


class Entry:
    """What became of one try on this flight."""

    def __init__(self, attempt, seats, fate):
        self.attempt = attempt
        self.seats = seats
        self.fate = fate


class Desk:
    """One flight; its entries stand in the order in which they were last put."""

    def __init__(self, flight, price, seats, over):
        self.flight = flight
        self.price = price
        self.seats = seats
        self.over = over
        self.earned = 0
        self.entries = []

    def twin(self):
        """The desk as it is now, untouched by what is done to this one later."""
        other = Desk(self.flight, self.price, self.seats, self.over)
        other.earned = self.earned
        other.entries = [Entry(entry.attempt, entry.seats, entry.fate) for entry in self.entries]
        return other

    def fate_of(self, attempt):
        for entry in self.entries:
            if entry.attempt == attempt:
                return entry.fate
        return UNHEARD

    def seats_of_fate(self, fate):
        return sum([entry.seats for entry in self.entries if entry.fate == fate])

    def sold(self):
        return self.seats_of_fate(HELD) + self.seats_of_fate(TAKEN)

    def may_be_sold(self):
        return self.seats + self.over

    def heeds(self, message):
        """Whether the message, read now, would change something."""
        fate = self.fate_of(message.attempt)
        if message.says == SAY_HOLD:
            return fate == UNHEARD
        if message.says == SAY_TAKE:
            return fate == HELD
        if message.says == SAY_FREE:
            return fate in (UNHEARD, HELD, REFUSED)
        return fate in (UNHEARD, HELD, REFUSED, TAKEN)

    def read(self, message):
        """Do what a message that is heeded asks; answers what is to be said."""
        if message.says == SAY_HOLD:
            return self.hold(message)
        if message.says == SAY_TAKE:
            return self.take(message)
        return self.release(message)

    def hold(self, message):
        if self.sold() + message.seats <= self.may_be_sold():
            self.put(message, HELD)
            return [self.word_home(SAY_HELD, message.attempt, message.seats)]
        self.put(message, REFUSED)
        return [self.word_home(SAY_FULL, message.attempt, message.seats)]

    def take(self, message):
        self.put(message, TAKEN)
        self.earned += self.price * message.seats
        return self.level()

    def release(self, message):
        if self.fate_of(message.attempt) == TAKEN:
            self.earned -= self.price * message.seats
        # A try not heard of gets an entry too, so that a hold that comes late finds it freed.
        self.put(message, FREED)
        return []

    def put(self, message, fate):
        others = [entry for entry in self.entries if entry.attempt != message.attempt]
        others.append(Entry(message.attempt, message.seats, fate))
        self.entries = others

    def cut(self, seats):
        self.seats = seats
        return self.level()

    def level(self):
        """Bump while too many are sold; answers one message for each that is bumped."""
        said = []
        taken = [entry for entry in self.entries if entry.fate == TAKEN]
        while len(taken) > 0 and self.sold() > self.may_be_sold():
            last = taken.pop()
            last.fate = BUMPED
            self.earned -= self.price * last.seats
            said.append(self.word_home(SAY_BUMPED, last.attempt, last.seats))
        return said

    def word_home(self, says, attempt, seats):
        return Message(attempt[0], says, attempt, self.flight, seats)
