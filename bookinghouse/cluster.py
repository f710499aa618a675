"""Lists of calls on one cluster, and what they are answered."""

from bookinghouse.house import House
from bookinghouse.reports import board_report, booking_report, messages_report, money_report

START = 0
FLIGHT = 1
ACCOUNT = 2
BOOK = 3
CANCEL = 4
CUT = 5
WIRE = 6
SURE = 7
POWER = 8
QUIET = 9
BOOKING = 10
BOARD = 11
MONEY = 12

# How many whole numbers stand behind each call's own, by that.
NUMBERS = (1, 4, 2, 5, 4, 3, 1, 1, 2, 0, 2, 1, 1, 1)


def answers(calls):
    house = House()
    given = []
    at = 0
    while at < len(calls):
        kind = calls[at]
        end = at + 1 + NUMBERS[kind]
        numbers = calls[at + 1:end]
        row = []
        if kind == BOOK:
            row = calls[end + 1:end + 1 + calls[end]]
            end += 1 + len(row)
        answer = answer_of(house, kind, numbers, row)
        given.append(len(answer))
        given.extend(answer)
        at = end
    return given


def answer_of(house, kind, numbers, row):
    if kind <= WIRE:
        return [one_number(house, kind, numbers, row)]
    if kind == SURE:
        return house.sure(numbers[0])
    if kind == POWER:
        return house.power(numbers[0], numbers[1])
    if kind == QUIET:
        return house.quiet()
    if kind == BOOKING:
        return booking_report(house, numbers[0], numbers[1])
    if kind == BOARD:
        return board_report(house, numbers[0])
    if kind == MONEY:
        return money_report(house, numbers[0])
    return messages_report(house, numbers[0])


def one_number(house, kind, numbers, row):
    """What the calls are answered that are never answered more."""
    if kind == START:
        return house.start(numbers[0])
    if kind == FLIGHT:
        return house.add_flight(numbers[0], numbers[1], numbers[2], numbers[3])
    if kind == ACCOUNT:
        return house.add_account(numbers[0], numbers[1])
    if kind == BOOK:
        return house.book(numbers[0], numbers[1], numbers[2], numbers[3], numbers[4], choices_of(row))
    if kind == CANCEL:
        return house.cancel(numbers[0], numbers[1], numbers[2], numbers[3])
    if kind == CUT:
        return house.cut(numbers[0], numbers[1], numbers[2])
    return house.read_wire(numbers[0])


def choices_of(row):
    """The row's choices, each a list of its flights."""
    choices = []
    at = 0
    while at < len(row):
        end = at + 1 + row[at]
        choices.append(row[at + 1:end])
        at = end
    return choices
