"""Promise 2: flight and account."""

import unittest

from helper import GREATEST, account, ask, book, cut, flight, make_house, picture, start


class FlightTest(unittest.TestCase):
    def test_numbers_run_over_all_nodes(self):
        self.assertEqual(
            ask(start(3), flight(0, 1, 2, 3), flight(2, 1, 2, 3), flight(1, 1, 2, 3), flight(0, 1, 2, 3)),
            [3, 0, 1, 2, 3])

    def test_least_and_greatest_values(self):
        self.assertEqual(ask(flight(0, 0, 0, 0), flight(1, 99, 20, 9)), [0, 1])

    def test_values_beyond(self):
        self.assertEqual(
            ask(flight(0, 100, 20, 9), flight(0, 99, 21, 9), flight(0, 99, 20, 10), flight(0, GREATEST, 0, 0),
                flight(0, 0, GREATEST, 0), flight(0, 0, 0, GREATEST), flight(0, 0, 0, 0)),
            [-1] * 6 + [0])

    def test_six_flights_at_most(self):
        six = [flight(d % 2, 1, 1, 1) for d in range(6)]
        self.assertEqual(ask(*six, flight(0, 1, 1, 1), flight(1, 1, 1, 1)), [0, 1, 2, 3, 4, 5, -5, -5])

    def test_not_once_something_was_done_at_some_node(self):
        ready = [flight(1, 1, 1, 1)]
        self.assertEqual(ask(*ready, cut(1, 0, 1), flight(0, 1, 1, 1), flight(1, 1, 1, 1)), [0, 0, -4, -4])

    def test_refused_calls_are_not_something_done(self):
        self.assertEqual(
            ask(flight(0, 1, 1, 1), cut(0, 0, 21), cut(1, 0, 1), book(0, 0, 0, 0, 1, [[0]]), flight(0, 1, 1, 1)),
            [0, -1, -3, -1, 1])

    def test_order_of_refusals(self):
        six = [flight(0, 1, 1, 1)] * 6
        given = ask(*six, flight(0, 100, 1, 1), flight(0, 1, 1, 1), cut(0, 0, 1), flight(0, 100, 1, 1),
                    flight(0, 1, 1, 1))
        self.assertEqual(given[6:], [-1, -5, 0, -1, -4])

    def test_refusals_leave_all(self):
        house = make_house(2, [(0, 1, 1, 1)] * 6, [])
        before = picture(house)
        self.assertEqual(
            [house.add_flight(2, 1, 1, 1), house.add_flight(0, 100, 1, 1), house.add_flight(0, 1, 1, 1)], [-2, -1, -5])
        self.assertEqual(picture(house), before)
        house.cut(0, 0, 1)
        before = picture(house)
        self.assertEqual(house.add_flight(0, 1, 1, 1), -4)
        self.assertEqual(picture(house), before)


class AccountTest(unittest.TestCase):
    def test_numbers_run_at_each_node(self):
        self.assertEqual(ask(account(0, 1), account(1, 1), account(1, 1), account(0, 1)), [0, 0, 1, 1])

    def test_least_and_greatest_money_and_beyond(self):
        self.assertEqual(ask(account(0, 0), account(0, 9999), account(0, 10000), account(0, GREATEST)), [0, 1, -1, -1])

    def test_four_accounts_at_a_node(self):
        self.assertEqual(ask(*[account(0, 1)] * 5, *[account(1, 1)] * 5), [0, 1, 2, 3, -5, 0, 1, 2, 3, -5])

    def test_not_once_something_was_done_at_some_node(self):
        self.assertEqual(ask(flight(0, 1, 1, 1), cut(0, 0, 1), account(0, 1), account(1, 1)), [0, 0, -4, -4])

    def test_a_booking_is_something_done_also_if_it_failed(self):
        self.assertEqual(
            ask(flight(0, 9, 1, 1), account(0, 0), book(0, 0, 0, 0, 1, [[0]]), account(1, 1), flight(1, 1, 1, 1)),
            [0, 0, 0, -4, -4])

    def test_order_of_refusals(self):
        ready = [flight(0, 1, 1, 1)] + [account(0, 1)] * 4
        given = ask(*ready, account(0, 10000), account(0, 1), cut(0, 0, 1), account(0, 10000), account(0, 1))
        self.assertEqual(given[5:], [-1, -5, 0, -1, -4])

    def test_refusals_leave_all(self):
        house = make_house(2, [(0, 1, 1, 1)], [(0, 1)] * 4)
        before = picture(house)
        self.assertEqual([house.add_account(2, 1), house.add_account(0, 10000), house.add_account(0, 1)], [-2, -1, -5])
        self.assertEqual(picture(house), before)
        house.cut(0, 0, 1)
        before = picture(house)
        self.assertEqual(house.add_account(1, 1), -4)
        self.assertEqual(picture(house), before)


if __name__ == "__main__":
    unittest.main()
