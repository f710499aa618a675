"""Promise 3: book and cancel, and requests that are told again."""

import unittest

from helper import (GREATEST, account, ask, book, cancel, cut, fill_with_cuts, flight, make_house, picture, read_all,
                    start)

READY = [flight(0, 1, 9, 0), flight(1, 2, 9, 0), flight(0, 3, 9, 0), flight(1, 4, 9, 0), account(0, 9999)]


def ask_ready(*calls):
    return ask(*READY, *calls)[len(READY):]


class BookTest(unittest.TestCase):
    def test_bookings_are_numbered_at_their_node(self):
        given = ask(start(3), *READY, account(2, 5), book(0, 0, 0, 0, 1, [[0]]), book(2, 0, 0, 0, 1, [[1], [0]]),
                    book(2, 0, 1, 0, 1, [[0, 1, 2]]), book(0, 1, 0, 0, 9, [[3, 2, 1], [0], [1, 0]]))
        self.assertEqual(given[7:], [0, 0, 1, 1])

    def test_what_cannot_be_paid_is_booked_and_failed(self):
        house = make_house(2, [(0, 9, 1, 1)], [(0, 8)])
        self.assertEqual(house.book(0, 0, 0, 0, 1, [[0], [0]]), 0)
        booking = house.nodes[0].home.bookings[0]
        self.assertEqual((booking.standing, booking.choice, booking.attempts, booking.noted), (2, 2, 0, []))

    def test_account(self):
        self.assertEqual(
            ask_ready(book(0, 0, 0, 1, 1, [[0]]), book(1, 0, 0, 0, 1, [[0]]), book(0, 0, 0, GREATEST, 1, [[0]]),
                      book(0, 0, 0, 0, 1, [[0]])),
            [-1, -1, -1, 0])

    def test_seats(self):
        asked = [book(0, 0, seats, 0, seats, [[0]]) for seats in (0, 1, 9, 10, GREATEST)]
        self.assertEqual(ask_ready(*asked), [-1, 0, 1, -1, -1])

    def test_how_many_choices(self):
        asked = [book(0, 0, count, 0, 1, [[0]] * count) for count in (0, 1, 2, 3, 4, 12)]
        self.assertEqual(ask_ready(*asked), [-1, 0, 1, 2, -1, -1])

    def test_how_many_flights_of_a_choice(self):
        asked = [book(0, 0, count, 0, 1, [list(range(count))]) for count in (0, 1, 2, 3, 4)]
        self.assertEqual(ask_ready(*asked), [-1, 0, 1, 2, -1])

    def test_every_choice_is_looked_at(self):
        for wrong in ([], [0, 1, 2, 3], [4], [GREATEST], [0, 4], [1, 1], [0, 1, 0]):
            for choices in ([wrong], [[0], wrong], [[0], [1], wrong], [wrong, [0]]):
                self.assertEqual(ask_ready(book(0, 0, 0, 0, 1, choices)), [-1])

    def test_a_choice_with_nothing_but_counts(self):
        self.assertEqual(ask_ready([3, 0, 0, 0, 0, 1, 24] + [0] * 24, [3, 0, 0, 0, 0, 1, 1, 0]), [-1, -1])

    def test_the_longest_row(self):
        self.assertEqual(ask_ready([3, 0, 0, 0, 0, 1, 24, 23] + [0] * 23, book(0, 0, 0, 0, 1, [[0]])), [-1, 0])

    def test_the_same_flight_in_several_choices(self):
        self.assertEqual(ask_ready(book(0, 0, 0, 0, 1, [[0, 1], [1, 0], [0]])), [0])

    def test_ten_bookings_at_a_node(self):
        ten = [book(0, 0, number, 0, 1, [[0]]) for number in range(10)]
        eleventh = book(0, 0, 10, 0, 1, [[0]])
        self.assertEqual(ask_ready(*ten, eleventh, book(0, 0, 10, 0, 10, [[0]])), list(range(10)) + [-7, -1])

    def test_ten_bookings_at_each_node(self):
        ten = [book(0, 0, number, 0, 1, [[0]]) for number in range(10)]
        self.assertEqual(
            ask(account(1, 9), *READY, *ten, book(1, 0, 0, 0, 1, [[0]]), book(0, 0, 10, 0, 1, [[0]]))[-2:], [0, -7])

    def test_refusals_leave_all(self):
        house = make_house(2, [(0, 1, 1, 1)], [(0, 99)])
        for number in range(10):
            house.book(0, 0, number, 0, 1, [[0]])
        before = picture(house)
        self.assertEqual(house.book(0, 0, 10, 0, 1, [[0]]), -7)
        self.assertEqual(house.book(0, 0, 10, 0, 1, [[1]]), -1)
        self.assertEqual(house.book(0, 0, 10, 1, 1, [[0]]), -1)
        self.assertEqual(house.book(0, 4, 10, 0, 1, [[0]]), -2)
        self.assertEqual(picture(house), before)


class CancelTest(unittest.TestCase):
    def test_no_such_booking(self):
        self.assertEqual(
            ask_ready(cancel(0, 0, 0, 0), book(0, 0, 0, 0, 1, [[0]]), cancel(0, 0, 1, 1), cancel(0, 0, 1, GREATEST),
                      cancel(1, 0, 1, 0)),
            [-3, 0, -3, -3, -3])

    def test_one_that_is_not_confirmed(self):
        self.assertEqual(ask_ready(book(0, 0, 0, 0, 1, [[0]]), cancel(0, 0, 1, 0), cancel(0, 0, 1, 0)), [0, -6, -6])

    def test_one_that_failed(self):
        self.assertEqual(
            ask(flight(0, 9, 1, 1), account(0, 8), book(0, 0, 0, 0, 1, [[0]]), cancel(0, 0, 1, 0)), [0, 0, 0, -6])

    def test_gives_back_the_cost_less_the_fee(self):
        house = make_house(2, [(0, 10, 9, 0), (1, 7, 9, 0)], [(0, 100)])
        house.book(0, 0, 0, 0, 3, [[1, 0]])
        read_all(house)
        home = house.nodes[0].home
        self.assertEqual((home.moneys, home.fees), ([49], 0))
        self.assertEqual(house.cancel(0, 0, 1, 0), 48)
        self.assertEqual((home.moneys, home.fees, home.bookings[0].standing), ([97], 3, 3))
        waiting = [(m.node, m.says, m.attempt, m.flight, m.seats) for m in house.nodes[0].unsure[-1].unsaid]
        self.assertEqual(waiting, [(1, 5, (0, 0, 1), 1, 3), (0, 5, (0, 0, 1), 0, 3)])

    def test_fee_is_no_more_than_the_cost(self):
        for price, seats, refund in ((0, 9, 0), (1, 9, 0), (2, 9, 9), (99, 1, 98)):
            house = make_house(2, [(0, price, 9, 0)], [(0, 100)])
            house.book(0, 0, 0, 0, seats, [[0]])
            read_all(house)
            self.assertEqual(house.cancel(0, 0, 1, 0), refund)
            self.assertEqual(house.nodes[0].home.fees, price * seats - refund)
            self.assertEqual(sum(house.nodes[0].home.moneys) + house.nodes[0].home.fees, 100)

    def test_one_that_was_cancelled(self):
        house = make_house(2, [(0, 5, 9, 0)], [(0, 100)])
        house.book(0, 0, 0, 0, 2, [[0]])
        read_all(house)
        self.assertEqual(house.cancel(0, 0, 1, 0), 8)
        before = picture(house)
        self.assertEqual(house.cancel(0, 0, 2, 0), -6)
        self.assertEqual(house.cancel(0, 0, 2, 1), -3)
        self.assertEqual(picture(house), before)


class ToldAgainTest(unittest.TestCase):
    def test_the_same_booking_again(self):
        again = book(0, 1, 7, 0, 2, [[0]])
        self.assertEqual(ask_ready(again, book(0, 1, 8, 0, 2, [[0]]), again, book(0, 1, 9, 0, 2, [[0]])), [0, 1, 0, 2])

    def test_other_numbers_beside_it(self):
        self.assertEqual(
            ask_ready(book(0, 0, 6, 0, 1, [[0]]), book(0, 1, 7, 0, 2, [[0]]), book(0, 1, 7, 0, 9, [[1], [2]]),
                      book(0, 1, 7, 5, 10, []), book(0, 1, 7, 0, 1, [[9]]), cancel(0, 1, 7, 0), cancel(0, 1, 7, 99)),
            [0, 1, 1, 1, 1, 1, 1])

    def test_another_client_number_or_node(self):
        self.assertEqual(
            ask(account(1, 99), *READY, book(0, 1, 7, 0, 1, [[0]]), book(0, 2, 7, 0, 1, [[0]]),
                book(0, 1, 8, 0, 1, [[0]]), book(1, 1, 7, 0, 1, [[0]]), book(0, 7, 1, 0, 1, [[0]]),
                book(0, 1, GREATEST, 0, 1, [[0]]), book(0, 1, GREATEST, 0, 1, [[0]]))[6:],
            [0, 1, 2, 0, -2, 3, 3])

    def test_a_refused_request_was_not_done(self):
        self.assertEqual(
            ask_ready(book(0, 1, 7, 0, 0, [[0]]), cancel(0, 1, 7, 0), book(0, 1, 7, 0, 1, [[0]]), cancel(0, 1, 7, 0)),
            [-1, -3, 0, 0])

    def test_with_ten_bookings(self):
        ten = [book(0, 0, number, 0, 1, [[0]]) for number in range(10)]
        self.assertEqual(ask_ready(*ten, book(0, 0, 4, 0, 1, [[0]]), book(0, 0, 9, 0, 0, []))[10:], [4, 9])

    def test_nothing_is_done(self):
        house = make_house(2, [(0, 5, 9, 0)], [(0, 100)])
        house.book(0, 0, 0, 0, 2, [[0]])
        before = picture(house)
        self.assertEqual(house.book(0, 0, 0, 0, 3, [[0]]), 0)
        self.assertEqual(picture(house), before)
        read_all(house)
        self.assertEqual(house.cancel(0, 0, 1, 0), 8)
        before = picture(house)
        again = [house.cancel(0, 0, 1, 0), house.cancel(0, 0, 1, 5), house.book(0, 0, 1, 0, 1, [[0]])]
        self.assertEqual(again, [8] * 3)
        self.assertEqual(house.book(0, 0, 0, 9, 9, []), 0)
        self.assertEqual(picture(house), before)

    def test_not_after_another_start(self):
        self.assertEqual(ask(*READY, book(0, 0, 0, 0, 1, [[0]]), book(0, 0, 1, 0, 1, [[0]]), start(2), *READY,
                             book(0, 0, 1, 0, 1, [[0]]))[-1], 0)


class SixtyDoingsTest(unittest.TestCase):
    def setUp(self):
        self.house = make_house(2, [(0, 5, 9, 0)], [(0, 100), (1, 100)])
        self.house.book(0, 0, 0, 0, 2, [[0]])
        read_all(self.house)

    def test_the_sixtieth_is_still_done(self):
        while self.house.nodes[0].doings() < 59:
            self.house.cut(0, 0, 9)
        self.assertEqual(self.house.book(0, 0, 1, 0, 1, [[0]]), 1)
        self.assertEqual(self.house.book(0, 0, 2, 0, 1, [[0]]), -5)

    def test_the_sixtieth_may_be_a_cancel(self):
        while self.house.nodes[0].doings() < 59:
            self.house.cut(0, 0, 9)
        self.assertEqual(self.house.cancel(0, 0, 1, 0), 8)
        self.assertEqual(self.house.cancel(0, 0, 1, 0), 8)
        self.assertEqual(self.house.cancel(0, 0, 2, 0), -5)

    def test_refused_with_sixty(self):
        fill_with_cuts(self.house, 0, 0, 9)
        before = picture(self.house)
        self.assertEqual(self.house.book(0, 0, 1, 0, 1, [[0]]), -5)
        self.assertEqual(self.house.book(0, 0, 1, 9, 10, []), -5)
        self.assertEqual(self.house.cancel(0, 0, 1, 0), -5)
        self.assertEqual(self.house.cancel(0, 0, 1, 9), -5)
        self.assertEqual(self.house.book(0, 4, 1, 0, 1, [[0]]), -2)
        self.assertEqual(picture(self.house), before)

    def test_what_was_done_is_still_answered(self):
        fill_with_cuts(self.house, 0, 0, 9)
        self.assertEqual(self.house.book(0, 0, 0, 9, 10, []), 0)
        self.assertEqual(self.house.cancel(0, 0, 0, 9), 0)

    def test_sure_doings_count_too(self):
        fill_with_cuts(self.house, 0, 0, 9)
        self.house.make_sure(0)
        self.assertEqual(self.house.book(0, 0, 1, 0, 1, [[0]]), -5)

    def test_other_nodes_go_on(self):
        fill_with_cuts(self.house, 0, 0, 9)
        self.assertEqual(self.house.book(1, 0, 1, 0, 1, [[0]]), 0)

    def test_no_room_comes_before_ten_bookings(self):
        for number in range(1, 10):
            self.house.book(0, 0, number, 0, 1, [[0]])
        self.assertEqual(self.house.book(0, 0, 10, 0, 1, [[0]]), -7)
        fill_with_cuts(self.house, 0, 0, 9)
        self.assertEqual(self.house.book(0, 0, 10, 0, 1, [[0]]), -5)


class MixedListTest(unittest.TestCase):
    def test_requests_and_cuts_in_one_list(self):
        self.assertEqual(
            ask_ready(book(0, 0, 0, 0, 1, [[0]]), cut(0, 0, 20), cancel(0, 0, 1, 0), cut(1, 1, 0),
                      book(0, 0, 1, 0, 1, [[3, 0]]), account(0, 1), flight(0, 1, 1, 1)),
            [0, 0, -6, 0, 1, -4, -4])


if __name__ == "__main__":
    unittest.main()
