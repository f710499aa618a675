"""Lists of calls on one cluster, and what they are answered."""

from bookinghouse.house import House

START = 0
FLIGHT = 1
ACCOUNT = 2
BOOK = 3
CANCEL = 4
CUT = 5

# How many whole numbers stand behind each call's own, by that.
NUMBERS = (1, 4, 2, 5, 4, 3, 1)


def answers(calls):
    house = House()
    given = []
    at = 0
    while at < len(calls):
        kind = calls[at]
        if kind >= len(NUMBERS):
            raise NotImplementedError(f"call {kind} is not answered yet")
        end = at + 1 + NUMBERS[kind]
        numbers = calls[at + 1:end]
        row = []
        if kind == BOOK:
            row = calls[end + 1:end + 1 + calls[end]]
            end += 1 + len(row)
        answer = answer_of(house, kind, numbers, row)
        given.append(len(answer))
        given.extend(answer)
        at = end
    return given


def answer_of(house, kind, numbers, row):
    if kind == START:
        return [house.start(numbers[0])]
    if kind == FLIGHT:
        return [house.add_flight(numbers[0], numbers[1], numbers[2], numbers[3])]
    if kind == ACCOUNT:
        return [house.add_account(numbers[0], numbers[1])]
    if kind == BOOK:
        choices = choices_of(row)
        return [house.book(numbers[0], numbers[1], numbers[2], numbers[3], numbers[4], choices)]
    if kind == CANCEL:
        return [house.cancel(numbers[0], numbers[1], numbers[2], numbers[3])]
    if kind == CUT:
        return [house.cut(numbers[0], numbers[1], numbers[2])]
    return [house.read_wire(numbers[0])]


def choices_of(row):
    """The row's choices, each a list of its flights."""
    choices = []
    at = 0
    while at < len(row):
        end = at + 1 + row[at]
        choices.append(row[at + 1:end])
        at = end
    return choices
