"""The calls that only look: each answers a list, a refusal alone in it."""

from bookinghouse.desk import HELD, TAKEN
from bookinghouse.house import NOT_THERE, NO_SUCH_NODE


def booking_report(house, d, b):
    if not house.has_node(d):
        return [NO_SUCH_NODE]
    bookings = house.nodes[d].home.bookings
    if b >= len(bookings):
        return [NOT_THERE]
    booking = bookings[b]
    return [booking.standing, booking.choice, booking.attempts, len(booking.noted)] + booking.noted


def board_report(house, flight):
    if flight >= len(house.plans):
        return [NOT_THERE]
    desk = house.nodes[house.plans[flight].node].desks[flight]
    told = [desk.seats, desk.seats_of_fate(HELD), desk.seats_of_fate(TAKEN), desk.earned, len(desk.entries)]
    for entry in desk.entries:
        told.extend(entry.attempt)
        told.extend([entry.seats, entry.fate])
    return told


def money_report(house, d):
    if not house.has_node(d):
        return [NO_SUCH_NODE]
    home = house.nodes[d].home
    return [len(home.moneys)] + home.moneys + [home.fees]


def messages_report(house, m):
    # With m just as many as there are, there are so many: none is told, and nothing is refused.
    if m > len(house.wire):
        return [NOT_THERE]
    told = [len(house.wire) - m]
    for message in house.wire[m:]:
        told.extend([message.node, message.says])
        told.extend(message.attempt)
        told.extend([message.flight, message.seats])
    return told
