"""Promise 5: booking, board, money and messages, which only look."""

import unittest

from helper import (GREATEST, account, ask_lists, board, book, booking, cut, flight, make_house, messages, money,
                    picture, power, quiet, start, sure, wire)
from bookinghouse.cluster import answer_of

READY = [flight(1, 10, 5, 0), flight(0, 1, 9, 2), account(0, 100), account(0, 7)]


def ask_ready(*calls):
    return ask_lists(*READY, *calls)[len(READY):]


class BookingTest(unittest.TestCase):
    def test_first_of_all(self):
        self.assertEqual(ask_lists(booking(0, 0)), [[-3]])

    def test_no_such_node_comes_first(self):
        self.assertEqual(ask_lists(booking(2, 0), booking(GREATEST, GREATEST), start(3), booking(2, 0)),
                         [[-2], [-2], [3], [-3]])

    def test_no_such_booking(self):
        self.assertEqual(
            ask_ready(book(0, 0, 0, 0, 1, [[0]]), booking(0, 0), booking(0, 1), booking(1, 0), booking(0, GREATEST)),
            [[0], [0, 0, 1, 0], [-3], [-3], [-3]])

    def test_up_to_ten_bookings(self):
        ten = [book(0, 0, number, 0, 1, [[1]]) for number in range(10)]
        self.assertEqual(ask_ready(*ten, booking(0, 9), booking(0, 10))[10:], [[0, 0, 1, 0], [-3]])

    def test_flights_in_the_order_heard(self):
        self.assertEqual(
            ask_ready(book(0, 0, 0, 0, 1, [[0, 1]]), sure(0), wire(1), wire(0), sure(0), sure(1), wire(2),
                      booking(0, 0), wire(3), booking(0, 0))[6:],
            [[1], [0, 0, 1, 1, 1], [1], [1, 0, 1, 2, 1, 0]])

    def test_choices_that_cannot_be_paid_are_passed_without_a_try(self):
        self.assertEqual(
            ask_ready(book(0, 0, 0, 1, 3, [[0], [0, 1], [1]]), booking(0, 0), book(0, 0, 1, 1, 5, [[0], [1]]),
                      booking(0, 1)),
            [[0], [0, 2, 1, 0], [1], [2, 2, 0, 0]])

    def test_bookings_of_two_homes(self):
        self.assertEqual(
            ask_lists(flight(0, 1, 5, 0), account(0, 9), account(1, 0), book(0, 0, 0, 0, 1, [[0]]),
                      book(1, 0, 0, 0, 1, [[0], [0]]), booking(0, 0), booking(1, 0))[5:],
            [[0, 0, 1, 0], [2, 2, 0, 0]])


class BoardTest(unittest.TestCase):
    def test_first_of_all(self):
        self.assertEqual(ask_lists(board(0), board(GREATEST)), [[-3], [-3]])

    def test_no_such_flight(self):
        self.assertEqual(
            ask_ready(board(0), board(1), board(2), board(GREATEST)), [[5, 0, 0, 0, 0], [9, 0, 0, 0, 0], [-3], [-3]])

    def test_six_flights(self):
        six = [flight(number % 2, 1, number, 0) for number in range(6)]
        self.assertEqual(ask_lists(*six, *[board(number) for number in range(7)])[6:],
                         [[number, 0, 0, 0, 0] for number in range(6)] + [[-3]])

    def test_seats_are_those_it_has_now_without_those_over(self):
        self.assertEqual(ask_ready(cut(0, 1, 20), board(1), cut(0, 1, 0), board(1)),
                         [[0], [20, 0, 0, 0, 0], [0], [0, 0, 0, 0, 0]])

    def test_held_and_taken_are_counted_in_seats(self):
        self.assertEqual(
            ask_ready(book(0, 0, 0, 0, 4, [[1]]), quiet(), book(0, 0, 1, 0, 3, [[1]]), book(0, 0, 2, 0, 5, [[1]]),
                      book(0, 0, 3, 0, 2, [[1]]), sure(0), wire(3), wire(4), wire(5), board(1))[9:],
            [[9, 5, 4, 4, 4, 0, 0, 1, 4, 3, 0, 1, 1, 3, 1, 0, 2, 1, 5, 2, 0, 3, 1, 2, 1]])

    def test_tries_of_several_homes(self):
        self.assertEqual(
            ask_lists(flight(0, 2, 9, 0), account(0, 9), account(1, 9), book(1, 0, 0, 0, 1, [[0]]),
                      book(0, 0, 0, 0, 2, [[0]]), sure(1), sure(0), wire(0), wire(1), board(0))[9:],
            [[9, 3, 0, 0, 2, 1, 0, 1, 1, 1, 0, 0, 1, 2, 1]])

    def test_entries_put_behind_all_others(self):
        self.assertEqual(
            ask_ready(book(0, 0, 0, 0, 4, [[1]]), book(0, 0, 1, 0, 3, [[1]]), sure(0), wire(0), wire(1), sure(0),
                      wire(2), sure(0), board(1), wire(4), board(1))[8:],
            [[9, 7, 0, 0, 2, 0, 0, 1, 4, 1, 0, 1, 1, 3, 1], [1],
             [9, 3, 4, 4, 2, 0, 1, 1, 3, 1, 0, 0, 1, 4, 3]])


class MoneyTest(unittest.TestCase):
    def test_first_of_all(self):
        self.assertEqual(ask_lists(money(0), money(1)), [[0, 0], [0, 0]])

    def test_no_such_node(self):
        self.assertEqual(ask_lists(money(2), money(GREATEST), start(4), money(3), money(4)),
                         [[-2], [-2], [4], [0, 0], [-2]])

    def test_accounts_of_each_node(self):
        self.assertEqual(ask_ready(account(1, 9999), money(0), money(1)), [[0], [2, 100, 7, 0], [1, 9999, 0]])

    def test_four_accounts(self):
        self.assertEqual(
            ask_lists(*[account(1, amount) for amount in (4, 3, 2, 0, 9)], money(1)),
            [[0], [1], [2], [3], [-5], [4, 4, 3, 2, 0, 0]])

    def test_the_cost_is_paid_out_of_the_bookings_account(self):
        self.assertEqual(ask_ready(book(0, 0, 0, 1, 7, [[1]]), money(0), money(1)), [[0], [2, 100, 0, 0], [0, 0]])


class MessagesTest(unittest.TestCase):
    def test_first_of_all(self):
        self.assertEqual(ask_lists(messages(0), messages(1), messages(GREATEST)), [[0], [-3], [-3]])

    def test_from_each_number_on(self):
        first = [1, 0, 0, 0, 1, 0, 1]
        second = [0, 0, 0, 0, 1, 1, 1]
        third = [0, 0, 0, 1, 1, 1, 2]
        self.assertEqual(
            ask_ready(book(0, 0, 0, 0, 1, [[0, 1]]), book(0, 0, 1, 1, 2, [[1]]), sure(0), messages(0), messages(1),
                      messages(2), messages(3), messages(4), messages(GREATEST))[2:],
            [[2, 3], [3] + first + second + third, [2] + second + third, [1] + third, [0], [-3], [-3]])

    def test_messages_that_were_read_stay(self):
        self.assertEqual(
            ask_ready(book(0, 0, 0, 0, 1, [[0]]), quiet(), messages(0), power(0, 0), power(1, 0), messages(2)),
            [[0], [3, 3], [3, 1, 0, 0, 0, 1, 0, 1, 0, 1, 0, 0, 1, 0, 1, 1, 3, 0, 0, 1, 0, 1], [2, 3], [2, 3],
             [1, 1, 3, 0, 0, 1, 0, 1]])

    def test_none_after_another_start(self):
        self.assertEqual(
            ask_ready(book(0, 0, 0, 0, 1, [[0]]), sure(0), start(2), messages(0), messages(1), wire(0))[2:],
            [[2], [0], [-3], [-3]])


class LookingChangesNothingTest(unittest.TestCase):
    def test_looks_and_refusals_leave_all(self):
        house = make_house(2, [(1, 10, 5, 0), (0, 1, 9, 2)], [(0, 100)])
        house.book(0, 0, 0, 0, 2, [[0, 1], [1]])
        house.make_sure(0)
        house.read_wire(0)
        before = picture(house)
        for call in (booking(0, 0), booking(0, 1), booking(2, 0), board(0), board(1), board(2), money(0), money(2),
                     messages(0), messages(2), messages(3), sure(2), power(2, 0)):
            answer_of(house, call[0], call[1:], [])
            self.assertEqual(picture(house), before)

    def test_what_is_answered_is_not_what_is_kept(self):
        house = make_house(2, [(1, 10, 5, 0)], [(0, 100)])
        house.book(0, 0, 0, 0, 2, [[0]])
        house.quiet()
        before = picture(house)
        for call in (booking(0, 0), board(0), money(0), messages(0)):
            answer_of(house, call[0], call[1:], []).clear()
        self.assertEqual(picture(house), before)


if __name__ == "__main__":
    unittest.main()
