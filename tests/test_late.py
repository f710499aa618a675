"""Messages that are read twice, late, in another order, or never."""

import unittest

from helper import (account, ask_lists, board, book, booking, cancel, cut, flight, messages, money, power, quiet, sure,
                    wire)


class ReadTwiceTest(unittest.TestCase):
    def test_each_message_of_a_journey(self):
        ready = [flight(1, 10, 5, 0), account(0, 100), book(0, 0, 0, 0, 2, [[0]]), sure(0)]
        self.assertEqual(
            ask_lists(*ready, wire(0), wire(0), sure(1), wire(0), wire(1), wire(1), sure(0), wire(0), wire(1), wire(2),
                      wire(2), board(0), money(0), cancel(0, 0, 1, 0), sure(0), wire(3), wire(3), board(0), sure(0),
                      sure(1))[4:],
            [[1], [0], [1, 2], [0], [1], [0], [2, 3], [0], [0], [1], [0], [5, 0, 2, 20, 1, 0, 0, 1, 2, 3], [1, 80, 0],
             [18], [3, 4], [1], [0], [5, 0, 0, 0, 1, 0, 0, 1, 2, 4], [3, 4], [3, 4]])

    def test_all_messages_again_at_the_end(self):
        ready = [flight(1, 10, 1, 0), flight(0, 9, 5, 0), account(0, 100), book(0, 0, 0, 0, 2, [[0, 1], [1]]), quiet()]
        looks = [booking(0, 0), board(0), board(1), money(0), sure(0), sure(1)]
        given = ask_lists(*ready, *looks, *[wire(m) for m in range(9)], *looks)
        self.assertEqual(given[4], [9, 9])
        self.assertEqual(given[11:20], [[0]] * 9)
        self.assertEqual(given[5:11], given[20:])

    def test_full_of_both_flights(self):
        self.assertEqual(
            ask_lists(flight(1, 10, 1, 0), flight(0, 9, 1, 0), account(0, 100), book(0, 0, 0, 0, 2, [[0, 1]]), sure(0),
                      wire(0), wire(1), sure(0), sure(1), wire(2), wire(3), money(0))[9:],
            [[1], [0], [1, 100, 0]])

    def test_bumped_of_both_flights(self):
        self.assertEqual(
            ask_lists(flight(1, 10, 2, 0), flight(1, 9, 2, 0), account(0, 100), book(0, 0, 0, 0, 2, [[0, 1]]), quiet(),
                      cut(1, 0, 0), cut(1, 1, 0), sure(1), wire(7), wire(6), money(0), booking(0, 0), quiet())[5:],
            [[1], [1], [6, 8], [1], [0], [1, 100, 0], [2, 1, 1, 0], [0, 10]])


class ReadLateTest(unittest.TestCase):
    def test_free_ahead_of_its_hold(self):
        freed = [5, 0, 0, 0, 1, 0, 0, 1, 1, 4]
        self.assertEqual(
            ask_lists(flight(0, 1, 0, 0), flight(1, 1, 5, 0), account(0, 9), book(0, 0, 0, 0, 1, [[0, 1]]), sure(0),
                      wire(0), sure(0), wire(2), sure(0), wire(4), board(1), wire(1), board(1), sure(1), quiet(),
                      board(1))[9:],
            [[1], freed, [0], freed, [1, 5], [1, 5], freed])

    def test_give_back_ahead_of_its_take(self):
        freed = [5, 0, 0, 0, 1, 0, 0, 1, 2, 4]
        self.assertEqual(
            ask_lists(flight(1, 10, 5, 0), account(0, 100), book(0, 0, 0, 0, 2, [[0]]), sure(0), wire(0), sure(1),
                      wire(1), cancel(0, 0, 1, 0), sure(0), messages(2), wire(3), board(0), wire(2), board(0), quiet(),
                      money(0))[7:],
            [[18], [3, 4], [2, 1, 3, 0, 0, 1, 0, 2, 1, 5, 0, 0, 1, 0, 2], [1], freed, [0], freed, [0, 4], [1, 98, 2]])

    def test_bumped_on_one_flight_ahead_of_the_others_take(self):
        self.assertEqual(
            ask_lists(flight(1, 10, 5, 0), flight(1, 1, 5, 0), account(0, 100), book(0, 0, 0, 0, 2, [[0, 1]]), sure(0),
                      wire(0), wire(1), sure(1), wire(2), wire(3), sure(0), wire(4), cut(1, 0, 1), sure(1), wire(6),
                      sure(0), wire(8), wire(5), board(1), quiet(), board(0), money(0))[11:],
            [[1], [1], [4, 7], [1], [4, 9], [1], [0], [5, 0, 0, 0, 1, 0, 0, 1, 2, 4], [0, 9],
             [1, 0, 0, 0, 1, 0, 0, 1, 2, 5], [1, 100, 0]])

    def test_held_of_an_earlier_try(self):
        self.assertEqual(
            ask_lists(flight(1, 1, 5, 0), flight(1, 1, 0, 0), account(0, 9), book(0, 0, 0, 0, 1, [[0, 1], [0]]),
                      sure(0), wire(0), wire(1), sure(1), wire(3), booking(0, 0), wire(2), booking(0, 0), quiet(),
                      booking(0, 0), board(0))[8:],
            [[1], [0, 1, 2, 0], [0], [0, 1, 2, 0], [5, 9], [1, 1, 2, 1, 0],
             [5, 0, 1, 1, 2, 0, 0, 1, 1, 4, 0, 0, 2, 1, 3]])

    def test_hold_of_the_next_try_ahead_of_the_free_of_the_last(self):
        self.assertEqual(
            ask_lists(flight(1, 1, 1, 0), flight(1, 1, 0, 0), account(0, 9), book(0, 0, 0, 0, 1, [[0, 1], [0]]),
                      sure(0), wire(0), wire(1), sure(1), wire(3), sure(0), messages(4), wire(6), board(0), quiet(),
                      booking(0, 0), board(0), money(0))[9:],
            [[2, 7], [3, 1, 4, 0, 0, 1, 0, 1, 1, 4, 0, 0, 1, 1, 1, 1, 0, 0, 0, 2, 0, 1], [1],
             [1, 1, 0, 0, 2, 0, 0, 1, 1, 1, 0, 0, 2, 1, 2], [4, 9], [2, 2, 2, 0],
             [1, 0, 0, 0, 2, 0, 0, 1, 1, 4, 0, 0, 2, 1, 4], [1, 9, 0]])

    def test_bumped_after_a_cancel(self):
        self.assertEqual(
            ask_lists(flight(1, 10, 5, 0), account(0, 100), book(0, 0, 0, 0, 2, [[0]]), quiet(), cut(1, 0, 0), sure(1),
                      cancel(0, 0, 1, 0), wire(3), money(0), booking(0, 0), quiet(), board(0))[4:],
            [[1], [3, 4], [18], [0], [1, 98, 2], [3, 0, 1, 1, 0], [0, 5], [0, 0, 0, 0, 1, 0, 0, 1, 2, 5]])

    def test_never_read(self):
        self.assertEqual(
            ask_lists(flight(1, 10, 2, 0), account(0, 100), book(0, 0, 0, 0, 2, [[0]]), book(0, 0, 1, 0, 2, [[0]]),
                      sure(0), wire(1), sure(1), wire(2), sure(0), wire(3), booking(0, 0), booking(0, 1), money(0),
                      board(0))[9:],
            [[1], [0, 0, 1, 0], [1, 0, 1, 1, 0], [1, 60, 0], [2, 0, 2, 20, 1, 0, 1, 1, 2, 3]])

    def test_who_is_read_first_is_held(self):
        self.assertEqual(
            ask_lists(flight(1, 10, 2, 0), account(0, 100), book(0, 0, 0, 0, 2, [[0]]), book(0, 0, 1, 0, 2, [[0]]),
                      sure(0), wire(1), quiet(), booking(0, 0), booking(0, 1))[6:],
            [[5, 6], [2, 1, 1, 0], [1, 0, 1, 1, 0]])

    def test_read_again_behind_a_loss_and_out_of_order(self):
        self.assertEqual(
            ask_lists(flight(1, 10, 5, 0), account(0, 100), book(0, 0, 0, 0, 2, [[0]]), book(0, 0, 1, 0, 1, [[0]]),
                      sure(0), wire(0), wire(1), power(1, 1), wire(0), wire(1), sure(1), messages(2), quiet(),
                      board(0))[5:],
            [[1], [1], [1, 3], [0], [1], [2, 4], [2, 0, 1, 0, 0, 1, 0, 2, 0, 1, 0, 1, 1, 0, 1], [4, 6],
             [5, 0, 3, 30, 2, 0, 0, 1, 2, 3, 0, 1, 1, 1, 3]])


if __name__ == "__main__":
    unittest.main()
