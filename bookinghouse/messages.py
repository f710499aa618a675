"""What nodes say to one another, of one try of a booking and one flight."""

SAY_HOLD = 0
SAY_HELD = 1
SAY_FULL = 2
SAY_TAKE = 3
SAY_FREE = 4
SAY_GIVE_BACK = 5
SAY_BUMPED = 6


class Message:
    """A message to a node; it is never changed, as it may be read any number of times.

    The attempt is a tuple: the booking's home, its number there, which of its tries.
    """

    def __init__(self, node, says, attempt, flight, seats):
        self.node = node
        self.says = says
        self.attempt = attempt
        self.flight = flight
        self.seats = seats


def is_for_home(message):
    return message.says in (SAY_HELD, SAY_FULL, SAY_BUMPED)
