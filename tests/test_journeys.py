"""Whole journeys through lists of calls, and what booking, board, money and messages then answer."""

import unittest

from helper import (account, ask_lists, board, book, booking, cancel, cut, flight, messages, money, power, quiet, start,
                    sure, wire)


class JourneyTest(unittest.TestCase):
    def check(self, *steps):
        """Each step is a call and its answer; all are asked in one list."""
        self.assertEqual(ask_lists(*[call for call, answer in steps]), [answer for call, answer in steps])

    def test_booked_held_confirmed_taken_step_by_step(self):
        self.check(
            (start(3), [3]), (flight(1, 10, 5, 1), [0]), (flight(2, 7, 5, 0), [1]), (account(0, 100), [0]),
            (book(0, 0, 0, 0, 2, [[1, 0]]), [0]),
            (booking(0, 0), [0, 0, 1, 0]), (money(0), [1, 66, 0]), (messages(0), [0]), (board(0), [5, 0, 0, 0, 0]),
            (sure(0), [1, 2]), (messages(0), [2, 2, 0, 0, 0, 1, 1, 2, 1, 0, 0, 0, 1, 0, 2]),
            (wire(1), [1]), (board(0), [5, 2, 0, 0, 1, 0, 0, 1, 2, 1]), (board(1), [5, 0, 0, 0, 0]),
            (sure(1), [1, 3]), (messages(2), [1, 0, 1, 0, 0, 1, 0, 2]),
            (wire(2), [1]), (booking(0, 0), [0, 0, 1, 1, 0]),
            (wire(0), [1]), (sure(2), [1, 4]), (wire(3), [1]), (booking(0, 0), [1, 0, 1, 2, 0, 1]),
            (sure(0), [3, 6]), (messages(4), [2, 2, 3, 0, 0, 1, 1, 2, 1, 3, 0, 0, 1, 0, 2]),
            (wire(4), [1]), (wire(5), [1]),
            (board(0), [5, 0, 2, 20, 1, 0, 0, 1, 2, 3]), (board(1), [5, 0, 2, 14, 1, 0, 0, 1, 2, 3]),
            (money(0), [1, 66, 0]), (quiet(), [0, 6]))

    def test_full_and_tried_from_the_next_choice_on(self):
        self.check(
            (flight(0, 5, 1, 0), [0]), (flight(1, 6, 3, 0), [1]), (account(0, 50), [0]),
            (book(0, 0, 0, 0, 2, [[0, 1], [1]]), [0]), (quiet(), [8, 9]),
            (messages(0), [9, 0, 0, 0, 0, 1, 0, 2, 1, 0, 0, 0, 1, 1, 2, 0, 2, 0, 0, 1, 0, 2, 0, 1, 0, 0, 1, 1, 2,
                           0, 4, 0, 0, 1, 0, 2, 1, 4, 0, 0, 1, 1, 2, 1, 0, 0, 0, 2, 1, 2, 0, 1, 0, 0, 2, 1, 2,
                           1, 3, 0, 0, 2, 1, 2]),
            (booking(0, 0), [1, 1, 2, 1, 1]), (money(0), [1, 38, 0]),
            (board(0), [1, 0, 0, 0, 1, 0, 0, 1, 2, 4]),
            (board(1), [3, 0, 2, 12, 2, 0, 0, 1, 2, 4, 0, 0, 2, 2, 3]))

    def test_no_choice_left(self):
        self.check(
            (flight(0, 5, 0, 0), [0]), (flight(1, 9, 1, 0), [1]), (account(0, 20), [0]),
            (book(0, 0, 0, 0, 2, [[0], [0, 1], [1]]), [0]), (booking(0, 0), [0, 0, 1, 0]), (money(0), [1, 10, 0]),
            (quiet(), [6, 6]), (booking(0, 0), [2, 3, 2, 0]), (money(0), [1, 20, 0]),
            (board(0), [0, 0, 0, 0, 1, 0, 0, 1, 2, 4]), (board(1), [1, 0, 0, 0, 1, 0, 0, 2, 2, 4]),
            (cancel(0, 0, 1, 0), [-6]))

    def test_no_choice_that_can_be_paid(self):
        self.check(
            (flight(0, 5, 9, 0), [0]), (account(0, 9), [0]), (book(0, 0, 0, 0, 2, [[0], [0]]), [0]),
            (booking(0, 0), [2, 2, 0, 0]), (money(0), [1, 9, 0]), (quiet(), [0, 0]), (board(0), [9, 0, 0, 0, 0]))

    def test_failed_with_a_flight_that_had_said_held(self):
        self.check(
            (flight(0, 5, 9, 0), [0]), (flight(1, 5, 1, 0), [1]), (account(0, 99), [0]),
            (book(0, 0, 0, 0, 2, [[0, 1]]), [0]), (sure(0), [1, 2]), (wire(0), [1]), (sure(0), [2, 3]), (wire(2), [1]),
            (booking(0, 0), [0, 0, 1, 1, 0]), (quiet(), [4, 6]), (booking(0, 0), [2, 1, 1, 0]), (money(0), [1, 99, 0]),
            (board(0), [9, 0, 0, 0, 1, 0, 0, 1, 2, 4]), (board(1), [1, 0, 0, 0, 1, 0, 0, 1, 2, 4]))

    def test_cancelled_with_the_fee(self):
        self.check(
            (flight(1, 10, 9, 0), [0]), (account(0, 40), [0]), (book(0, 0, 0, 0, 3, [[0]]), [0]), (quiet(), [3, 3]),
            (money(0), [1, 10, 0]), (board(0), [9, 0, 3, 30, 1, 0, 0, 1, 3, 3]),
            (cancel(0, 0, 1, 0), [27]), (money(0), [1, 37, 3]), (booking(0, 0), [3, 0, 1, 1, 0]),
            (quiet(), [1, 4]), (messages(3), [1, 1, 5, 0, 0, 1, 0, 3]),
            (board(0), [9, 0, 0, 0, 1, 0, 0, 1, 3, 4]), (money(0), [1, 37, 3]), (cancel(0, 0, 2, 0), [-6]))

    def test_fee_is_no_more_than_the_cost(self):
        for price, refund, fee in ((0, 0, 0), (1, 0, 9), (2, 9, 9), (99, 882, 9)):
            self.check(
                (flight(1, price, 9, 0), [0]), (account(0, 900), [0]), (book(0, 0, 0, 0, 9, [[0]]), [0]),
                (quiet(), [3, 3]), (cancel(0, 0, 1, 0), [refund]), (money(0), [1, 900 - fee, fee]), (quiet(), [1, 4]),
                (board(0), [9, 0, 0, 0, 1, 0, 0, 1, 9, 4]))

    def test_cancelled_gives_back_to_all_flights_in_order(self):
        self.check(
            (start(3), [3]), (flight(1, 2, 9, 0), [0]), (flight(2, 3, 9, 0), [1]), (flight(0, 4, 9, 0), [2]),
            (account(0, 50), [0]), (book(0, 0, 0, 0, 2, [[2, 0, 1]]), [0]), (quiet(), [9, 9]),
            (cancel(0, 3, 0, 0), [16]), (messages(9), [0]), (sure(0), [7, 12]),
            (messages(9), [3, 0, 5, 0, 0, 1, 2, 2, 1, 5, 0, 0, 1, 0, 2, 2, 5, 0, 0, 1, 1, 2]),
            (money(0), [1, 48, 2]))

    def test_cut_bumped_and_booked_anew(self):
        self.check(
            (flight(1, 10, 3, 0), [0]), (flight(0, 20, 3, 0), [1]), (account(0, 70), [0]),
            (book(0, 0, 0, 0, 3, [[0], [1]]), [0]), (quiet(), [3, 3]), (money(0), [1, 40, 0]),
            (cut(1, 0, 2), [1]), (board(0), [2, 0, 0, 0, 1, 0, 0, 1, 3, 5]), (booking(0, 0), [1, 0, 1, 1, 0]),
            (sure(1), [3, 4]), (messages(3), [1, 0, 6, 0, 0, 1, 0, 3]),
            (quiet(), [4, 8]), (messages(4), [4, 1, 5, 0, 0, 1, 0, 3, 0, 0, 0, 0, 2, 1, 3, 0, 1, 0, 0, 2, 1, 3,
                                              0, 3, 0, 0, 2, 1, 3]),
            (booking(0, 0), [1, 1, 2, 1, 1]), (money(0), [1, 10, 0]),
            (board(0), [2, 0, 0, 0, 1, 0, 0, 1, 3, 5]), (board(1), [3, 0, 3, 60, 1, 0, 0, 2, 3, 3]))

    def test_cut_bumped_and_failed(self):
        self.check(
            (flight(1, 10, 3, 0), [0]), (account(0, 70), [0]), (book(0, 0, 0, 0, 3, [[0]]), [0]), (quiet(), [3, 3]),
            (cut(1, 0, 2), [1]), (quiet(), [1, 5]), (booking(0, 0), [2, 1, 1, 0]), (money(0), [1, 70, 0]),
            (board(0), [2, 0, 0, 0, 1, 0, 0, 1, 3, 5]), (cancel(0, 0, 1, 0), [-6]))

    def test_bumped_on_one_flight_gives_back_the_others(self):
        self.check(
            (flight(1, 10, 3, 0), [0]), (flight(1, 1, 3, 0), [1]), (account(0, 70), [0]),
            (book(0, 0, 0, 0, 3, [[0, 1]]), [0]), (quiet(), [6, 6]), (cut(1, 0, 0), [1]), (quiet(), [2, 9]),
            (booking(0, 0), [2, 1, 1, 0]), (money(0), [1, 70, 0]),
            (board(0), [0, 0, 0, 0, 1, 0, 0, 1, 3, 5]), (board(1), [3, 0, 0, 0, 1, 0, 0, 1, 3, 4]))

    def test_cut_bumps_those_that_took_last(self):
        self.check(
            (flight(0, 10, 6, 2), [0]), (account(1, 200), [0]), (book(1, 0, 0, 0, 2, [[0]]), [0]),
            (book(1, 0, 1, 0, 3, [[0]]), [1]), (book(1, 0, 2, 0, 1, [[0]]), [2]), (sure(1), [3, 3]),
            (wire(2), [1]), (wire(0), [1]), (wire(1), [1]),
            (board(0), [6, 6, 0, 0, 3, 1, 2, 1, 1, 1, 1, 0, 1, 2, 1, 1, 1, 1, 3, 1]),
            (sure(0), [3, 6]), (wire(3), [1]), (wire(4), [1]), (wire(5), [1]), (sure(1), [6, 9]),
            (wire(8), [1]), (wire(6), [1]), (wire(7), [1]),
            (board(0), [6, 0, 6, 60, 3, 1, 1, 1, 3, 3, 1, 2, 1, 1, 3, 1, 0, 1, 2, 3]),
            (cut(0, 0, 4), [0]), (cut(0, 0, 3), [1]),
            (board(0), [3, 0, 4, 40, 3, 1, 1, 1, 3, 3, 1, 2, 1, 1, 3, 1, 0, 1, 2, 5]),
            (cut(0, 0, 0), [2]),
            (board(0), [0, 0, 0, 0, 3, 1, 1, 1, 3, 5, 1, 2, 1, 1, 5, 1, 0, 1, 2, 5]),
            (sure(0), [9, 12]),
            (messages(9), [3, 1, 6, 1, 0, 1, 0, 2, 1, 6, 1, 2, 1, 0, 1, 1, 6, 1, 1, 1, 0, 3]))

    def test_taken_of_a_flight_that_was_cut_meanwhile(self):
        self.check(
            (flight(1, 10, 3, 0), [0]), (account(0, 70), [0]), (book(0, 0, 0, 0, 3, [[0]]), [0]), (sure(0), [1, 1]),
            (wire(0), [1]), (cut(1, 0, 2), [0]), (board(0), [2, 3, 0, 0, 1, 0, 0, 1, 3, 1]),
            (quiet(), [3, 5]), (messages(1), [4, 0, 1, 0, 0, 1, 0, 3, 1, 3, 0, 0, 1, 0, 3, 0, 6, 0, 0, 1, 0, 3,
                                              1, 5, 0, 0, 1, 0, 3]),
            (board(0), [2, 0, 0, 0, 1, 0, 0, 1, 3, 5]), (booking(0, 0), [2, 1, 1, 0]), (money(0), [1, 70, 0]))

    def test_seats_over_are_sold_too(self):
        self.check(
            (flight(1, 10, 3, 2), [0]), (account(0, 900), [0]), (book(0, 0, 0, 0, 3, [[0]]), [0]),
            (book(0, 0, 1, 0, 3, [[0]]), [1]), (book(0, 0, 2, 0, 2, [[0]]), [2]), (quiet(), [9, 9]),
            (board(0), [3, 0, 5, 50, 3, 0, 0, 1, 3, 3, 0, 1, 1, 3, 4, 0, 2, 1, 2, 3]),
            (booking(0, 1), [2, 1, 1, 0]), (money(0), [1, 850, 0]))

    def test_seats_that_are_given_back_are_sold_again(self):
        self.check(
            (flight(1, 10, 3, 0), [0]), (account(0, 900), [0]), (account(1, 30), [0]),
            (book(0, 0, 0, 0, 3, [[0]]), [0]), (quiet(), [3, 3]), (book(1, 0, 0, 0, 1, [[0]]), [0]), (quiet(), [3, 6]),
            (booking(1, 0), [2, 1, 1, 0]), (cancel(0, 0, 1, 0), [27]), (quiet(), [1, 7]),
            (book(1, 0, 1, 0, 3, [[0]]), [1]), (quiet(), [3, 10]), (booking(1, 1), [1, 0, 1, 1, 0]),
            (money(0), [1, 897, 3]), (money(1), [1, 0, 0]),
            (board(0), [3, 0, 3, 30, 3, 1, 0, 1, 1, 4, 0, 0, 1, 3, 4, 1, 1, 1, 3, 3]))

    def test_all_kinds_of_calls_in_one_list(self):
        self.check(
            (quiet(), [0, 0]), (start(3), [3]), (flight(2, 4, 2, 1), [0]), (account(1, 30), [0]), (power(1, 0), [0, 0]),
            (account(1, 5), [1]), (book(1, 3, 9, 0, 3, [[0]]), [0]), (messages(1), [-3]), (sure(1), [1, 1]),
            (wire(0), [1]), (power(2, 0), [0, 1]), (board(0), [2, 0, 0, 0, 0]), (wire(0), [1]), (power(2, 1), [1, 2]),
            (quiet(), [2, 3]), (cut(2, 0, 1), [1]), (cancel(1, 3, 9, 0), [0]), (cancel(1, 3, 10, 0), [9]),
            (money(1), [2, 27, 5, 3]), (quiet(), [0, 5]), (booking(1, 0), [3, 0, 1, 1, 0]),
            (board(0), [1, 0, 0, 0, 1, 1, 0, 1, 3, 5]), (flight(0, 1, 1, 1), [-4]), (start(2), [2]), (money(1), [0, 0]),
            (messages(0), [0]), (board(0), [-3]), (booking(1, 0), [-3]))


if __name__ == "__main__":
    unittest.main()
