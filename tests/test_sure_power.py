"""Sure and power: what goes out on the wire, what is lost and what stays."""

import unittest

from helper import (GREATEST, account, ask_lists, board, book, booking, cancel, cut, flight, messages, money, power,
                    quiet, start, sure, wire)

# Flight 0 is at the other node, flight 1 at the home.
READY = [flight(1, 10, 5, 0), flight(0, 1, 9, 0), account(0, 100)]
THREE = [book(0, 0, 0, 0, 1, [[0]]), cut(0, 1, 8), book(0, 0, 1, 0, 2, [[1, 0]])]


def ask_ready(*calls):
    return ask_lists(*READY, *calls)[len(READY):]


class SureTest(unittest.TestCase):
    def test_first_of_all(self):
        self.assertEqual(ask_lists(sure(0), sure(1), sure(0)), [[0, 0]] * 3)

    def test_no_such_node(self):
        self.assertEqual(
            ask_lists(sure(2), sure(GREATEST), start(4), sure(3), sure(4)), [[-2], [-2], [4], [0, 0], [-2]])

    def test_what_is_to_be_said_goes_out_once_and_in_order(self):
        self.assertEqual(
            ask_ready(*THREE, messages(0), sure(1), sure(0), messages(0), sure(0), sure(1)),
            [[0], [0], [1], [0], [0, 0], [3, 3],
             [3, 1, 0, 0, 0, 1, 0, 1, 0, 0, 0, 1, 1, 1, 2, 1, 0, 0, 1, 1, 0, 2], [3, 3], [0, 3]])

    def test_nodes_go_out_in_the_order_in_which_they_are_made_sure(self):
        self.assertEqual(
            ask_lists(flight(0, 1, 5, 0), account(0, 9), account(1, 9), book(0, 0, 0, 0, 1, [[0]]),
                      book(1, 0, 0, 0, 2, [[0]]), sure(1), sure(0), messages(0))[5:],
            [[1, 1], [1, 2], [2, 0, 0, 1, 0, 1, 0, 2, 0, 0, 0, 0, 1, 0, 1]])

    def test_messages_that_change_nothing_are_no_doings(self):
        self.assertEqual(
            ask_ready(book(0, 0, 0, 0, 1, [[0]]), sure(0), wire(0), wire(0), sure(1), wire(0), sure(1))[1:],
            [[1, 1], [1], [0], [1, 2], [0], [1, 2]])

    def test_requests_that_are_refused_or_told_again_are_no_doings(self):
        again = book(0, 0, 0, 0, 1, [[0]])
        self.assertEqual(
            ask_ready(again, again, book(0, 0, 1, 1, 1, [[0]]), cancel(0, 0, 0, 9), cancel(0, 0, 2, 0), cut(0, 0, 1),
                      cut(0, 1, 21), sure(0)),
            [[0], [0], [-1], [0], [-6], [-3], [-1], [1, 1]])

    def test_what_is_sure_is_not_lost(self):
        self.assertEqual(
            ask_ready(*THREE, sure(0), power(0, 0), booking(0, 1), money(0), board(1), messages(0),
                      book(0, 0, 1, 0, 1, [])),
            [[0], [0], [1], [3, 3], [3, 3], [0, 0, 1, 0], [1, 68, 0], [8, 0, 0, 0, 0],
             [3, 1, 0, 0, 0, 1, 0, 1, 0, 0, 0, 1, 1, 1, 2, 1, 0, 0, 1, 1, 0, 2], [1]])


class HowManyStayTest(unittest.TestCase):
    def test_first_of_all(self):
        self.assertEqual(ask_lists(power(1, 0), power(0, GREATEST), power(1, 1)), [[0, 0]] * 3)

    def test_no_such_node(self):
        self.assertEqual(
            ask_lists(power(2, 0), power(GREATEST, GREATEST), start(3), power(2, 0), power(3, 0)),
            [[-2], [-2], [3], [0, 0], [-2]])

    def test_no_such_node_leaves_all(self):
        self.assertEqual(ask_ready(*THREE, power(2, 0), sure(2), messages(0), sure(0))[3:], [[-2], [-2], [0], [3, 3]])

    def test_none(self):
        self.assertEqual(
            ask_ready(*THREE, power(0, 0), messages(0), booking(0, 0), money(0), board(1), sure(0))[3:],
            [[0, 0], [0], [-3], [1, 100, 0], [9, 0, 0, 0, 0], [0, 0]])

    def test_some(self):
        self.assertEqual(
            ask_ready(*THREE, power(0, 1), messages(0), booking(0, 0), booking(0, 1), money(0), board(1), sure(0))[3:],
            [[1, 1], [1, 1, 0, 0, 0, 1, 0, 1], [0, 0, 1, 0], [-3], [1, 90, 0], [9, 0, 0, 0, 0], [1, 1]])
        self.assertEqual(
            ask_ready(*THREE, power(0, 2), booking(0, 0), booking(0, 1), money(0), board(1))[3:],
            [[2, 1], [0, 0, 1, 0], [-3], [1, 90, 0], [8, 0, 0, 0, 0]])

    def test_all_and_more_than_there_are(self):
        for n in (3, 4, 60, GREATEST):
            self.assertEqual(
                ask_ready(*THREE, power(0, n), booking(0, 1), money(0), board(1), messages(1), sure(0))[3:],
                [[3, 3], [0, 0, 1, 0], [1, 68, 0], [8, 0, 0, 0, 0],
                 [2, 0, 0, 0, 1, 1, 1, 2, 1, 0, 0, 1, 1, 0, 2], [3, 3]])

    def test_only_those_that_are_not_sure_are_counted(self):
        self.assertEqual(
            ask_ready(THREE[0], sure(0), THREE[1], THREE[2], power(0, 1), booking(0, 0), booking(0, 1), board(1))[4:],
            [[2, 1], [0, 0, 1, 0], [-3], [8, 0, 0, 0, 0]])

    def test_those_that_stay_are_sure(self):
        self.assertEqual(
            ask_ready(*THREE, power(0, 1), power(0, 0), booking(0, 0), money(0))[3:],
            [[1, 1], [1, 1], [0, 0, 1, 0], [1, 90, 0]])

    def test_with_nothing_that_is_not_sure(self):
        for n in (0, 1, GREATEST):
            self.assertEqual(
                ask_ready(*THREE, quiet(), power(0, n), power(1, n), board(0), board(1), money(0))[4:],
                [[8, 9], [4, 9], [5, 0, 3, 30, 2, 0, 0, 1, 1, 3, 0, 1, 1, 2, 3], [8, 0, 2, 2, 1, 0, 1, 1, 2, 3],
                 [1, 68, 0]])

    def test_other_nodes_lose_nothing(self):
        self.assertEqual(
            ask_ready(*THREE, cut(1, 0, 7), power(1, 0), sure(0), board(0))[4:], [[0, 0], [3, 3], [5, 0, 0, 0, 0]])
        self.assertEqual(
            ask_ready(*THREE, cut(1, 0, 7), power(0, 0), board(0), sure(1), board(0))[4:],
            [[0, 0], [7, 0, 0, 0, 0], [1, 0], [7, 0, 0, 0, 0]])


class LostTest(unittest.TestCase):
    def test_a_lost_request_told_again(self):
        again = book(0, 2, 7, 0, 1, [[0]])
        self.assertEqual(
            ask_ready(again, power(0, 0), again, booking(0, 0), money(0), again, sure(0)),
            [[0], [0, 0], [0], [0, 0, 1, 0], [1, 90, 0], [0], [1, 1]])

    def test_a_lost_request_may_be_another_one_when_told_again(self):
        self.assertEqual(
            ask_ready(book(0, 2, 7, 0, 1, [[0]]), power(0, 0), book(0, 2, 7, 0, 0, [[0]]), cancel(0, 2, 7, 0),
                      book(0, 2, 7, 0, 4, [[1]]), sure(0), messages(0), money(0)),
            [[0], [0, 0], [-1], [-3], [0], [1, 1], [1, 0, 0, 0, 0, 1, 1, 4], [1, 96, 0]])

    def test_the_number_of_a_lost_booking_is_given_anew(self):
        self.assertEqual(
            ask_ready(book(0, 0, 0, 0, 1, [[0]]), book(0, 0, 1, 0, 2, [[0]]), book(0, 0, 2, 0, 1, [[0]]), power(0, 1),
                      book(0, 0, 2, 0, 3, [[1]]), book(0, 0, 0, 0, 9, []), book(0, 0, 1, 0, 1, [[1], [0]]), sure(0),
                      messages(0), quiet(), booking(0, 1), booking(0, 2))[3:],
            [[1, 1], [1], [0], [2], [3, 3],
             [3, 1, 0, 0, 0, 1, 0, 1, 0, 0, 0, 1, 1, 1, 3, 0, 0, 0, 2, 1, 1, 1], [9, 9],
             [1, 0, 1, 1, 1], [1, 0, 1, 1, 1]])

    def test_ten_bookings_of_which_some_are_lost(self):
        ten = [book(0, 0, number, 0, 1, [[1]]) for number in range(10)]
        eleventh = book(0, 0, 10, 0, 1, [[1]])
        self.assertEqual(
            ask_ready(*ten, eleventh, power(0, 9), eleventh, book(0, 0, 9, 0, 1, [[1]]))[10:],
            [[-7], [9, 9], [9], [-7]])

    def test_a_lost_cancel(self):
        self.assertEqual(
            ask_ready(book(0, 0, 0, 0, 2, [[0]]), quiet(), cancel(0, 0, 1, 0), power(0, 0), booking(0, 0), money(0),
                      messages(3), cancel(0, 0, 1, 0), cancel(0, 0, 1, 0), money(0), quiet(), board(0)),
            [[0], [3, 3], [18], [2, 3], [1, 0, 1, 1, 0], [1, 80, 0], [0], [18], [18], [1, 98, 2], [1, 4],
             [5, 0, 0, 0, 1, 0, 0, 1, 2, 4]])

    def test_a_lost_cut(self):
        taken = [5, 0, 4, 40, 2, 0, 0, 1, 2, 3, 0, 1, 1, 2, 3]
        self.assertEqual(
            ask_ready(book(0, 0, 0, 0, 2, [[0]]), book(0, 0, 1, 0, 2, [[0]]), quiet(), cut(1, 0, 1), board(0),
                      power(1, 0), board(0), quiet(), cut(1, 0, 2), cut(1, 0, 0), power(1, 1), board(0),
                      messages(6))[2:],
            [[6, 6], [2], [1, 0, 0, 0, 2, 0, 0, 1, 2, 5, 0, 1, 1, 2, 5], [4, 6], taken, [0, 6], [1], [1], [5, 7],
             [2, 0, 2, 20, 2, 0, 0, 1, 2, 3, 0, 1, 1, 2, 5], [1, 0, 6, 0, 1, 1, 0, 2]])

    def test_a_lost_hold_is_held_when_read_again(self):
        self.assertEqual(
            ask_ready(book(0, 0, 0, 0, 2, [[0]]), sure(0), wire(0), wire(0), power(1, 0), board(0), wire(0), board(0),
                      sure(1), messages(1)),
            [[0], [1, 1], [1], [0], [0, 1], [5, 0, 0, 0, 0], [1], [5, 2, 0, 0, 1, 0, 0, 1, 2, 1], [1, 2],
             [1, 0, 1, 0, 0, 1, 0, 2]])

    def test_who_comes_first_after_holds_are_lost(self):
        self.assertEqual(
            ask_ready(book(0, 0, 0, 0, 3, [[0]]), book(0, 0, 1, 0, 3, [[0]]), sure(0), wire(0), wire(1), board(0),
                      power(1, 0), wire(1), wire(0), board(0))[5:],
            [[5, 3, 0, 0, 2, 0, 0, 1, 3, 1, 0, 1, 1, 3, 2], [0, 2], [1], [1],
             [5, 3, 0, 0, 2, 0, 1, 1, 3, 1, 0, 0, 1, 3, 2]])

    def test_a_lost_held(self):
        self.assertEqual(
            ask_ready(book(0, 0, 0, 0, 1, [[0, 1]]), sure(0), wire(0), wire(1), sure(0), sure(1), wire(2), wire(3),
                      booking(0, 0), power(0, 1), booking(0, 0), wire(2), wire(3), sure(0))[6:],
            [[1], [1], [1, 0, 1, 2, 1, 0], [3, 4], [0, 0, 1, 1, 1], [0], [1], [4, 6]])

    def test_a_lost_full(self):
        self.assertEqual(
            ask_ready(cut(1, 0, 0), book(0, 0, 0, 0, 2, [[0], [1]]), sure(0), wire(0), sure(1), wire(1), booking(0, 0),
                      money(0), power(0, 0), booking(0, 0), money(0), wire(1), sure(0))[5:],
            [[1], [0, 1, 2, 0], [1, 98, 0], [1, 2], [0, 0, 1, 0], [1, 80, 0], [1], [2, 4]])

    def test_a_lost_bumped(self):
        self.assertEqual(
            ask_ready(book(0, 0, 0, 0, 2, [[0]]), quiet(), cut(1, 0, 0), sure(1), wire(3), booking(0, 0), power(0, 0),
                      booking(0, 0), money(0), quiet(), booking(0, 0), money(0))[4:],
            [[1], [2, 1, 1, 0], [2, 4], [1, 0, 1, 1, 0], [1, 80, 0], [1, 5], [2, 1, 1, 0], [1, 100, 0]])

    def test_a_lost_take(self):
        held = [5, 2, 0, 0, 1, 0, 0, 1, 2, 1]
        self.assertEqual(
            ask_ready(book(0, 0, 0, 0, 2, [[0]]), sure(0), wire(0), sure(1), wire(1), sure(0), board(0), wire(2),
                      board(0), power(1, 0), board(0), wire(2), board(0))[6:],
            [held, [1], [5, 0, 2, 20, 1, 0, 0, 1, 2, 3], [1, 3], held, [1], [5, 0, 2, 20, 1, 0, 0, 1, 2, 3]])

    def test_a_lost_give_back(self):
        taken = [5, 0, 2, 20, 1, 0, 0, 1, 2, 3]
        self.assertEqual(
            ask_ready(book(0, 0, 0, 0, 2, [[0]]), quiet(), cancel(0, 0, 1, 0), sure(0), wire(3), board(0), power(1, 0),
                      board(0), wire(3), board(0))[4:],
            [[1], [5, 0, 0, 0, 1, 0, 0, 1, 2, 4], [2, 4], taken, [1], [5, 0, 0, 0, 1, 0, 0, 1, 2, 4]])

    def test_a_lost_free(self):
        refused = [0, 0, 0, 0, 1, 0, 0, 1, 2, 2]
        self.assertEqual(
            ask_ready(cut(1, 0, 0), book(0, 0, 0, 0, 2, [[0]]), sure(0), wire(0), sure(1), wire(1), sure(0), wire(2),
                      board(0), power(1, 0), board(0), wire(2))[7:],
            [[1], [0, 0, 0, 0, 1, 0, 0, 1, 2, 4], [2, 3], refused, [1]])

    def test_home_and_flights_of_one_node_are_set_back_together(self):
        self.assertEqual(
            ask_ready(book(0, 0, 0, 0, 2, [[1]]), sure(0), wire(0), book(0, 0, 1, 0, 1, [[0]]), cut(0, 1, 3),
                      power(0, 1), board(1), booking(0, 1), money(0))[5:],
            [[2, 2], [9, 2, 0, 0, 1, 0, 0, 1, 2, 1], [-3], [1, 98, 0]])

    def test_all_that_was_done_before_stays_as_it_was(self):
        ready = [book(0, 0, 0, 0, 6, [[0], [1]]), quiet(), book(0, 0, 1, 0, 2, [[0]]), quiet(), cancel(0, 0, 2, 1),
                 quiet()]
        self.assertEqual(
            ask_ready(*ready, cut(0, 1, 0), book(0, 0, 3, 0, 1, [[0]]), power(0, 0), booking(0, 0), booking(0, 1),
                      booking(0, 2), money(0), board(1), cancel(0, 0, 2, 0), book(0, 0, 0, 0, 1, [[1]]),
                      cancel(0, 0, 3, 0), money(0), quiet(), board(1)),
            [[0], [6, 6], [1], [3, 9], [18], [1, 10], [1], [2], [8, 10], [1, 1, 2, 1, 1], [3, 0, 1, 1, 0], [-3],
             [1, 92, 2], [9, 0, 6, 6, 1, 0, 0, 2, 6, 3], [18], [0], [0], [1, 92, 8], [1, 11],
             [9, 0, 0, 0, 1, 0, 0, 2, 6, 4]])

    def test_lost_twice(self):
        self.assertEqual(
            ask_ready(*THREE, power(0, 1), *THREE[1:], power(0, 1), *THREE[1:], power(0, 0), money(0), board(1),
                      book(0, 0, 0, 0, 1, [[1]]), book(0, 0, 1, 0, 1, [[1]]))[3:],
            [[1, 1], [0], [1], [2, 1], [0], [1], [2, 1], [1, 90, 0], [8, 0, 0, 0, 0], [0], [1]])

    def test_the_power_goes_again_and_again(self):
        self.assertEqual(ask_ready(*THREE, *[power(0, 0)] * 3, *THREE, *[power(0, 2)] * 2)[3:],
                         [[0, 0]] * 3 + [[0], [0], [1]] + [[2, 1]] * 2)


class AddedAgainTest(unittest.TestCase):
    def test_when_all_is_lost(self):
        self.assertEqual(
            ask_ready(*THREE, flight(1, 3, 3, 3), account(0, 5), power(0, 0), flight(0, 3, 3, 3), account(0, 5),
                      book(0, 0, 0, 1, 1, [[2]]), sure(0), messages(0), money(0), board(2), board(1)),
            [[0], [0], [1], [-4], [-4], [0, 0], [2], [1], [0], [1, 1], [1, 0, 0, 0, 0, 1, 2, 1], [2, 100, 2, 0],
             [3, 0, 0, 0, 0], [9, 0, 0, 0, 0]])

    def test_not_when_some_stay(self):
        self.assertEqual(ask_ready(*THREE, power(0, 1), flight(0, 3, 3, 3), account(1, 5))[3:], [[1, 1], [-4], [-4]])

    def test_not_when_something_was_done_at_another_node(self):
        self.assertEqual(
            ask_ready(*THREE, cut(1, 0, 5), power(0, 0), flight(0, 3, 3, 3), account(0, 5), power(1, 0),
                      flight(0, 3, 3, 3), account(0, 5))[4:],
            [[0, 0], [-4], [-4], [0, 0], [2], [1]])

    def test_sure_and_quiet_alone_do_nothing(self):
        self.assertEqual(ask_ready(sure(0), power(1, 3), quiet(), flight(0, 3, 3, 3), account(0, 5)),
                         [[0, 0], [0, 0], [0, 0], [2], [1]])

    def test_a_flight_that_is_added_then_is_lost_with_nothing(self):
        self.assertEqual(
            ask_ready(*THREE, power(0, 0), flight(0, 3, 4, 2), account(0, 5), cut(0, 2, 1), power(0, 0), board(2),
                      money(0))[6:],
            [[0], [0, 0], [4, 0, 0, 0, 0], [2, 100, 5, 0]])


if __name__ == "__main__":
    unittest.main()
