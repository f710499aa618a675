"""Quiet: rounds, and what a node with 60 doings can't do or read any more."""

import unittest

from helper import (GREATEST, account, ask_lists, board, book, booking, cancel, cut, flight, make_house, messages,
                    money, picture, power, quiet, start, sure, wire)
from bookinghouse.house import House


class RestlessHouse(House):
    def do_round(self):
        return 1


class QuietTest(unittest.TestCase):
    def test_first_of_all(self):
        self.assertEqual(ask_lists(quiet(), quiet()), [[0, 0], [0, 0]])

    def test_with_nothing_to_read(self):
        self.assertEqual(
            ask_lists(flight(0, 1, 5, 0), account(0, 9), quiet(), cut(0, 0, 4), quiet(), power(0, 0), board(0)),
            [[0], [0], [0, 0], [0], [0, 0], [1, 0], [4, 0, 0, 0, 0]])

    def test_with_nothing_more_to_read(self):
        self.assertEqual(
            ask_lists(flight(0, 1, 5, 0), account(0, 9), book(0, 0, 0, 0, 1, [[0]]), quiet(), quiet(), sure(0),
                      quiet()),
            [[0], [0], [0], [3, 3], [0, 3], [4, 3], [0, 3]])

    def test_what_it_did_last_is_sure(self):
        self.assertEqual(
            ask_lists(flight(1, 1, 5, 0), account(0, 9), book(0, 0, 0, 0, 1, [[0]]), quiet(), power(0, 0), power(1, 0),
                      booking(0, 0), board(0))[3:],
            [[3, 3], [2, 3], [2, 3], [1, 0, 1, 1, 0], [5, 0, 1, 1, 1, 0, 0, 1, 1, 3]])

    def test_nodes_are_made_sure_in_order(self):
        self.assertEqual(
            ask_lists(start(3), flight(0, 1, 5, 0), account(2, 9), account(0, 9), account(1, 9),
                      book(2, 0, 0, 0, 1, [[0]]), book(1, 0, 0, 0, 2, [[0]]), book(0, 0, 0, 0, 1, [[0]]), quiet(),
                      messages(0), board(0))[8:],
            [[9, 9],
             [9, 0, 0, 0, 0, 1, 0, 1, 0, 0, 1, 0, 1, 0, 2, 0, 0, 2, 0, 1, 0, 1,
              0, 1, 0, 0, 1, 0, 1, 1, 1, 1, 0, 1, 0, 2, 2, 1, 2, 0, 1, 0, 1,
              0, 3, 0, 0, 1, 0, 1, 0, 3, 1, 0, 1, 0, 2, 0, 3, 2, 0, 1, 0, 1],
             [5, 0, 4, 4, 3, 0, 0, 1, 1, 3, 1, 0, 1, 2, 3, 2, 0, 1, 1, 3]])

    def test_messages_on_the_wire_are_read_from_the_first_on(self):
        self.assertEqual(
            ask_lists(flight(0, 1, 3, 0), account(0, 9), account(1, 9), book(0, 0, 0, 0, 2, [[0]]),
                      book(1, 0, 0, 0, 2, [[0]]), sure(1), quiet(), booking(0, 0), booking(1, 0))[5:],
            [[1, 1], [6, 6], [2, 1, 1, 0], [1, 0, 1, 1, 0]])

    def test_what_was_read_before_is_not_counted(self):
        self.assertEqual(
            ask_lists(flight(0, 1, 5, 0), account(0, 9), book(0, 0, 0, 0, 1, [[0]]), sure(0), wire(0), quiet())[3:],
            [[1, 1], [1], [2, 3]])

    def test_doings_that_are_not_sure_are_made_so(self):
        self.assertEqual(
            ask_lists(flight(1, 1, 5, 0), account(0, 9), book(0, 0, 0, 0, 1, [[0]]), sure(0), wire(0), power(1, 0),
                      quiet(), booking(0, 0))[5:],
            [[0, 1], [3, 3], [1, 0, 1, 1, 0]])

    def test_many_rounds(self):
        # Held, take, bumped, hold, full, hold, held, take: eight rounds, and one that changes nothing.
        ready = [flight(1, 1, 5, 0), flight(1, 2, 1, 0), flight(1, 3, 5, 0), account(0, 90),
                 book(0, 0, 0, 0, 2, [[0], [1], [2]])]
        self.assertEqual(
            ask_lists(*ready, sure(0), wire(0), cut(1, 0, 0), quiet(), booking(0, 0), board(0), board(1), board(2),
                      money(0))[5:],
            [[1, 1], [1], [0], [9, 11], [1, 2, 3, 1, 2], [0, 0, 0, 0, 1, 0, 0, 1, 2, 5], [1, 0, 0, 0, 1, 0, 0, 2, 2, 4],
             [5, 0, 2, 6, 1, 0, 0, 3, 2, 3], [1, 84, 0]])

    def test_no_more_than_thirty_rounds(self):
        # No list of calls needs so many: a house in which every round changes something stands for it.
        self.assertEqual(RestlessHouse().quiet(), [30, 0])

    def test_again_changes_nothing(self):
        house = make_house(2, [(0, 1, 5, 0), (1, 1, 5, 0)], [(0, 90), (1, 90)])
        house.book(0, 0, 0, 0, 2, [[0, 1]])
        house.book(1, 0, 0, 0, 2, [[1, 0]])
        self.assertEqual(house.quiet(), [12, 12])
        before = picture(house)
        self.assertEqual(house.quiet(), [0, 12])
        self.assertEqual(picture(house), before)


# Each booking over the three flights is 10 doings at node 0, when all is read: one, and 3 of each hold, held, take.
AT_ONE_NODE = [flight(0, 1, 20, 9), flight(0, 2, 20, 9), flight(0, 3, 20, 9), flight(1, 4, 20, 0), account(0, 900),
               account(1, 9)]


def books(count, first=0):
    return [book(0, 0, number, 0, 1, [[0, 1, 2]]) for number in range(first, first + count)]


def ask_at_one(*calls):
    return ask_lists(*AT_ONE_NODE, *calls)[len(AT_ONE_NODE):]


class SixtyDoingsTest(unittest.TestCase):
    def test_all_is_read_with_just_sixty(self):
        self.assertEqual(
            ask_at_one(*books(6), quiet(), sure(0), booking(0, 5), board(2), quiet())[6:],
            [[54, 54], [60, 54], [1, 0, 1, 3, 0, 1, 2],
             [20, 0, 6, 18, 6] + [n for b in range(6) for n in (0, b, 1, 1, 3)], [0, 54]])

    def test_requests_and_cuts_are_refused(self):
        self.assertEqual(
            ask_at_one(*books(6), quiet(), book(0, 0, 6, 0, 1, [[0]]), cancel(0, 0, 6, 5), cut(0, 0, 20), sure(0))[7:],
            [[-5], [-5], [-5], [60, 54]])

    def test_order_of_refusals(self):
        self.assertEqual(
            ask_at_one(*books(6), quiet(), book(2, 4, 6, 9, 0, []), book(0, 4, 0, 9, 0, []), book(0, 0, 6, 9, 0, []),
                       cancel(0, 4, 0, 99), cancel(0, 0, 6, 99), cut(0, 3, 21), cut(0, 0, 21), cut(0, 0, 20),
                       wire(54), wire(GREATEST))[7:],
            [[-2], [-2], [-5], [-2], [-5], [-3], [-1], [-5], [-3], [-3]])

    def test_a_request_that_was_done_is_answered(self):
        self.assertEqual(
            ask_at_one(*books(6), quiet(), book(0, 0, 3, 9, 0, []), cancel(0, 0, 4, 99), *books(6), sure(0))[7:],
            [[3], [4], [0], [1], [2], [3], [4], [5], [60, 54]])

    def test_a_cancel_that_was_done_is_answered(self):
        given = ask_at_one(*books(5), quiet(), cancel(0, 0, 50, 0), quiet(), *books(1, 5), quiet(),
                           cancel(0, 0, 50, 9), cancel(0, 0, 51, 1), sure(0))
        self.assertEqual(given[5:], [[45, 45], [5], [3, 48], [5], [5, 54], [5], [-5], [60, 54]])

    def test_messages_that_the_node_cannot_read_any_more(self):
        # 7 requests, 21 holds and 21 helds leave room for 11 of the 21 takes.
        self.assertEqual(
            ask_at_one(*books(7), quiet(), wire(52), wire(53), wire(62), wire(63), wire(0), sure(0), board(0), board(1),
                       booking(0, 6), quiet())[7:],
            [[53, 63], [0], [-5], [-5], [-3], [0], [60, 63],
             [20, 3, 4, 4, 7, 0, 4, 1, 1, 1, 0, 5, 1, 1, 1, 0, 6, 1, 1, 1] +
             [n for b in range(4) for n in (0, b, 1, 1, 3)],
             [20, 3, 4, 8, 7, 0, 4, 1, 1, 1, 0, 5, 1, 1, 1, 0, 6, 1, 1, 1] +
             [n for b in range(4) for n in (0, b, 1, 1, 3)],
             [1, 0, 1, 3, 0, 1, 2], [0, 63]])

    def test_other_nodes_read_on(self):
        # The home has no room for what node 1 tells it, but node 1 reads what is for itself.
        self.assertEqual(
            ask_at_one(*books(5), quiet(), *books(1, 5), book(0, 0, 6, 0, 1, [[3]]), *[cut(0, 0, 20)] * 3, sure(0),
                       quiet(), booking(0, 5), booking(0, 6), board(3), sure(1), wire(51), wire(52), wire(53), wire(48),
                       cut(1, 3, 19))[11:],
            [[55, 49], [6, 53], [0, 0, 1, 2, 0, 1], [0, 0, 1, 0], [20, 1, 0, 0, 1, 0, 6, 1, 1, 1], [1, 53], [-5], [-5],
             [-3], [0], [0]])

    def test_a_read_message_may_be_the_sixtieth(self):
        cuts = [cut(0, 0, 20)] * 9
        self.assertEqual(
            ask_at_one(*books(5), quiet(), *cuts, book(1, 0, 0, 0, 1, [[0, 1]]), sure(1), wire(45), wire(46),
                       sure(0))[15:],
            [[0], [1, 47], [1], [-5], [60, 48]])

    def test_refusals_leave_all(self):
        looks = [booking(0, 0), board(0), board(1), board(2), money(0), money(1), messages(0), sure(0), sure(1)]
        refused = [book(0, 0, 7, 0, 1, [[0]]), cancel(0, 0, 7, 0), cut(0, 0, 1), wire(53), wire(62), wire(63)]
        given = ask_at_one(*books(7), quiet(), *looks, *refused, *looks)[8:]
        self.assertEqual(given[9:15], [[-5], [-5], [-5], [-5], [-5], [-3]])
        self.assertEqual(given[:9], given[15:])

    def test_room_again_when_doings_are_lost(self):
        self.assertEqual(
            ask_at_one(*books(5), quiet(), *[cut(0, 0, 19)] * 11, power(0, 9), cut(0, 0, 1), cut(0, 0, 2),
                       board(0))[16:],
            [[-5], [59, 45], [0], [-5], [1, 0, 5, 5, 5] + [n for b in range(5) for n in (0, b, 1, 1, 3)]])

    def test_lost_with_sixty_and_read_again(self):
        self.assertEqual(
            ask_at_one(*books(5), quiet(), *[cut(0, 0, 20)] * 9, book(1, 0, 0, 0, 1, [[0]]), sure(1), wire(45),
                       cut(0, 0, 20), power(0, 8), wire(45), cut(0, 0, 20), cut(0, 0, 20), sure(0))[17:],
            [[1], [-5], [58, 46], [1], [0], [-5], [60, 47]])


if __name__ == "__main__":
    unittest.main()
