"""Promise 1: start, and the node and the client of the calls that have one."""

import unittest

from helper import (GREATEST, account, ask, ask_lists, board, book, booking, cancel, cut, flight, messages, money,
                    power, quiet, start, sure, wire)


class StartTest(unittest.TestCase):
    def test_takes_two_to_four_nodes(self):
        self.assertEqual(ask(start(2), start(3), start(4)), [2, 3, 4])

    def test_refuses_other_counts(self):
        self.assertEqual(ask(start(0), start(1), start(5), start(GREATEST)), [-1, -1, -1, -1])

    def test_there_are_as_many_nodes_as_started(self):
        for k in (2, 3, 4):
            self.assertEqual(ask(start(k), account(k - 1, 1), account(k, 1)), [k, 0, -2])

    def test_there_are_two_nodes_without_a_start(self):
        self.assertEqual(ask(account(1, 1), account(2, 1)), [0, -2])

    def test_fewer_nodes_after_another_start(self):
        self.assertEqual(ask(start(4), account(3, 1), start(2), account(3, 1)), [4, 0, 2, -2])

    def test_begins_anew(self):
        before = [flight(0, 1, 1, 1), account(0, 5), book(0, 0, 0, 0, 1, [[0]])]
        self.assertEqual(
            ask(*before, start(2), book(0, 0, 0, 0, 1, [[0]]), cut(0, 0, 1), cancel(0, 0, 1, 0), *before),
            [0, 0, 0, 2, -1, -3, -3, 0, 0, 0])

    def test_nothing_is_left_of_what_was_sure(self):
        self.assertEqual(
            ask_lists(flight(0, 1, 5, 1), account(0, 5), book(0, 0, 0, 0, 1, [[0]]), quiet(), start(2), sure(0),
                      money(0), board(0), booking(0, 0), messages(0), quiet(), flight(1, 1, 7, 1), board(0))[4:],
            [[2], [0, 0], [0, 0], [-3], [-3], [0], [0, 0], [0], [7, 0, 0, 0, 0]])

    def test_refused_start_leaves_all(self):
        self.assertEqual(
            ask(start(3), flight(2, 1, 1, 1), start(5), start(1), flight(2, 1, 1, 1), account(0, 1),
                book(0, 0, 0, 0, 1, [[0]]), start(0), book(0, 0, 0, 0, 1, [[0]]), flight(2, 1, 1, 1)),
            [3, 0, -1, -1, 1, 0, 0, -1, 0, -4])


class NodeTest(unittest.TestCase):
    def test_every_call_with_a_node_refuses_one_that_is_not(self):
        for d in (2, 3, GREATEST):
            self.assertEqual(
                ask(flight(d, 1, 1, 1), account(d, 1), book(d, 0, 0, 0, 1, [[0]]), cancel(d, 0, 0, 0), cut(d, 0, 1)),
                [-2] * 5)
            self.assertEqual(ask(sure(d), power(d, 0), booking(d, 0), money(d)), [-2] * 4)

    def test_refused_for_the_node_leaves_all(self):
        ready = [flight(0, 1, 5, 1), account(0, 5), book(0, 0, 0, 0, 1, [[0]])]
        refused = [sure(2), power(2, 0), booking(2, 0), money(2), cut(2, 0, 1), cancel(2, 0, 0, 0)]
        self.assertEqual(
            ask_lists(*ready, *refused, messages(0), booking(0, 0), money(0), sure(0))[3:],
            [[-2]] * 6 + [[0], [0, 0, 1, 0], [1, 4, 0], [1, 1]])

    def test_no_such_node_comes_first(self):
        self.assertEqual(
            ask(flight(2, 100, 21, 10), account(2, 10000), book(2, 4, 0, 9, 0, []), cancel(2, 4, 0, 9), cut(2, 9, 21)),
            [-2] * 5)

    def test_no_such_node_comes_before_too_late_and_too_many(self):
        flights = [flight(0, 1, 1, 1)] * 6
        accounts = [account(0, 1)] * 4
        given = ask(*flights, *accounts, flight(2, 1, 1, 1), cut(0, 0, 1), flight(2, 1, 1, 1), account(2, 1))
        self.assertEqual(given[10:], [-2, 0, -2, -2])


class ClientTest(unittest.TestCase):
    def test_clients_are_0_to_3(self):
        ready = [flight(0, 1, 9, 0), account(0, 99)]
        asked = [book(0, client, 5, 0, 1, [[0]]) for client in (0, 3, 4, GREATEST)]
        self.assertEqual(ask(*ready, *asked), [0, 0, 0, 1, -2, -2])
        cancels = [cancel(0, client, 6, 0) for client in (0, 3, 4, GREATEST)]
        self.assertEqual(ask(*ready, *cancels), [0, 0, -3, -3, -2, -2])

    def test_wrong_client_comes_before_all_else(self):
        self.assertEqual(ask(book(0, 4, 0, 9, 0, []), cancel(0, 4, 0, 9)), [-2, -2])

    def test_any_call_may_be_first(self):
        firsts = [(start(3), 3), (flight(1, 99, 20, 9), 0), (account(1, 9999), 0), (book(0, 0, 0, 0, 1, [[0]]), -1),
                  (cancel(0, 0, 0, 0), -3), (cut(0, 0, 1), -3), (wire(0), -3)]
        for call, answer in firsts:
            self.assertEqual(ask(call), [answer])
        for call, answer in ((sure(1), [0, 0]), (power(1, 9), [0, 0]), (quiet(), [0, 0]), (booking(1, 0), [-3]),
                             (board(0), [-3]), (money(1), [0, 0]), (messages(0), [0])):
            self.assertEqual(ask_lists(call), [answer])


if __name__ == "__main__":
    unittest.main()
