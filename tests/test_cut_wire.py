"""Promise 4: cut and wire."""

import unittest

from helper import (GREATEST, account, ask, book, cut, entries_of, fill_with_cuts, flight, make_all_sure, make_house,
                    messages_of, picture, read_all, start, wire)


class CutTest(unittest.TestCase):
    def test_least_and_greatest_seats_and_beyond(self):
        self.assertEqual(
            ask(flight(0, 1, 5, 1), cut(0, 0, 0), cut(0, 0, 20), cut(0, 0, 21), cut(0, 0, GREATEST)), [0, 0, 0, -1, -1])

    def test_the_flight_is_to_be_at_the_node(self):
        self.assertEqual(
            ask(flight(0, 1, 5, 1), flight(1, 1, 5, 1), cut(0, 0, 1), cut(0, 1, 1), cut(1, 0, 1), cut(1, 1, 1),
                cut(0, 2, 1), cut(0, GREATEST, 1)),
            [0, 1, 0, -3, -3, 0, -3, -3])

    def test_order_of_refusals(self):
        self.assertEqual(ask(flight(0, 1, 5, 1), cut(2, 1, 21), cut(1, 0, 21), cut(0, 0, 21)), [0, -2, -3, -1])
        house = make_house(2, [(0, 1, 5, 1), (1, 1, 5, 1)], [])
        fill_with_cuts(house, 0, 0, 5)
        self.assertEqual([house.cut(0, 1, 21), house.cut(0, 1, 5), house.cut(0, 0, 21), house.cut(0, 0, 5)],
                         [-3, -3, -1, -5])

    def test_as_many_cuts_as_a_list_has_room_for(self):
        self.assertEqual(ask(flight(0, 1, 5, 1), *[cut(0, 0, 5)] * 59), [0] * 60)

    def test_sixty_doings(self):
        house = make_house(2, [(0, 1, 5, 1), (1, 1, 5, 1)], [])
        self.assertEqual([house.cut(0, 0, 5) for turn in range(62)], [0] * 60 + [-5, -5])
        self.assertEqual(house.cut(1, 1, 5), 0)

    def test_refusals_leave_all(self):
        house = make_house(2, [(0, 1, 5, 1), (1, 1, 5, 1)], [])
        fill_with_cuts(house, 0, 0, 5)
        before = picture(house)
        self.assertEqual([house.cut(2, 0, 1), house.cut(0, 1, 1), house.cut(1, 1, 21), house.cut(0, 0, 1)],
                         [-2, -3, -1, -5])
        self.assertEqual(picture(house), before)

    def test_bumps_those_taken_last_till_no_more_are_sold_than_may_be(self):
        house = make_house(2, [(1, 10, 10, 2)], [(0, 9999)])
        for number in range(4):
            house.book(0, 0, number, 0, 3, [[0]])
        read_all(house)
        desk = house.nodes[1].desks[0]
        self.assertEqual((desk.sold(), desk.earned), (12, 120))
        self.assertEqual(house.cut(1, 0, 10), 0)
        self.assertEqual(house.cut(1, 0, 5), 2)
        self.assertEqual((desk.seats, desk.sold(), desk.earned), (5, 6, 60))
        self.assertEqual(entries_of(house, 1, 0),
                         [(0, 0, 1, 3, 3), (0, 1, 1, 3, 3), (0, 2, 1, 3, 5), (0, 3, 1, 3, 5)])
        first = len(house.wire)
        house.make_sure(1)
        self.assertEqual(messages_of(house, first), [(0, 6, 0, 3, 1, 0, 3), (0, 6, 0, 2, 1, 0, 3)])

    def test_more_seats_bump_nobody(self):
        house = make_house(2, [(0, 10, 3, 0)], [(0, 9999)])
        house.book(0, 0, 0, 0, 3, [[0]])
        read_all(house)
        self.assertEqual([house.cut(0, 0, seats) for seats in (20, 3, 2, 0)], [0, 0, 1, 0])

    def test_those_held_are_not_bumped_but_count(self):
        house = make_house(2, [(0, 10, 6, 0)], [(0, 9999)])
        house.book(0, 0, 0, 0, 2, [[0]])
        read_all(house)
        house.book(0, 0, 1, 0, 4, [[0]])
        house.make_sure(0)
        self.assertEqual(house.read_wire(len(house.wire) - 1), 1)
        self.assertEqual(house.cut(0, 0, 5), 1)
        self.assertEqual(entries_of(house, 0, 0), [(0, 0, 1, 2, 5), (0, 1, 1, 4, 1)])
        self.assertEqual(house.cut(0, 0, 1), 0)

    def test_one_that_is_taken_of_a_flight_cut_meanwhile_is_bumped_at_once(self):
        house = make_house(2, [(0, 10, 6, 0)], [(0, 100)])
        house.book(0, 0, 0, 0, 4, [[0]])
        house.make_sure(0)
        house.read_wire(0)
        self.assertEqual(house.cut(0, 0, 3), 0)
        read_all(house)
        self.assertEqual(entries_of(house, 0, 0), [(0, 0, 1, 4, 5)])
        home = house.nodes[0].home
        self.assertEqual((home.moneys, home.bookings[0].standing, house.nodes[0].desks[0].earned), ([100], 2, 0))


class WireTest(unittest.TestCase):
    def test_nothing_is_on_the_wire_till_it_is_sure(self):
        self.assertEqual(
            ask(wire(0), flight(0, 1, 5, 1), account(0, 9), book(0, 0, 0, 0, 1, [[0]]), wire(0), wire(1),
                wire(GREATEST)),
            [-3, 0, 0, 0, -3, -3, -3])

    def test_there_are_as_many_as_went_out(self):
        house = make_house(2, [(1, 1, 5, 1)], [(0, 9)])
        house.book(0, 0, 0, 0, 1, [[0]])
        self.assertEqual(house.read_wire(0), -3)
        house.make_sure(0)
        self.assertEqual([house.read_wire(0), house.read_wire(1), house.read_wire(GREATEST)], [1, -3, -3])
        house.make_sure(0)
        self.assertEqual(house.read_wire(1), -3)
        house.make_sure(1)
        self.assertEqual([house.read_wire(1), house.read_wire(2)], [1, -3])

    def test_read_again_changes_nothing(self):
        house = make_house(2, [(1, 1, 5, 1)], [(0, 9)])
        house.book(0, 0, 0, 0, 1, [[0]])
        read_all(house)
        before = picture(house)
        self.assertEqual([house.read_wire(m) for m in range(len(house.wire))], [0] * 3)
        self.assertEqual(picture(house), before)

    def test_start_clears_the_wire(self):
        house = make_house(2, [(1, 1, 5, 1)], [(0, 9)])
        house.book(0, 0, 0, 0, 1, [[0]])
        house.make_sure(0)
        house.start(2)
        self.assertEqual(house.read_wire(0), -3)

    def test_numbered_as_they_go_out(self):
        house = make_house(2, [(0, 1, 5, 1), (1, 1, 5, 1)], [(0, 9), (1, 9)])
        house.book(0, 0, 0, 0, 1, [[1, 0]])
        house.book(1, 0, 0, 0, 2, [[0]])
        house.book(0, 0, 1, 0, 3, [[0]])
        house.make_sure(1)
        house.make_sure(0)
        self.assertEqual(
            messages_of(house),
            [(0, 0, 1, 0, 1, 0, 2), (1, 0, 0, 0, 1, 1, 1), (0, 0, 0, 0, 1, 0, 1), (0, 0, 0, 1, 1, 0, 3)])

    def test_one_that_would_change_something_at_a_node_with_sixty_doings(self):
        house = make_house(2, [(1, 1, 5, 1)], [(0, 99)])
        house.book(0, 0, 0, 0, 1, [[0]])
        house.book(0, 0, 1, 0, 1, [[0]])
        make_all_sure(house)
        self.assertEqual(house.read_wire(0), 1)
        fill_with_cuts(house, 1, 0, 5)
        before = picture(house)
        self.assertEqual([house.read_wire(0), house.read_wire(1), house.read_wire(2)], [0, -5, -3])
        self.assertEqual(picture(house), before)

    def test_a_home_with_sixty_doings(self):
        house = make_house(2, [(1, 1, 5, 1), (0, 1, 1, 1)], [(0, 99)])
        house.book(0, 0, 0, 0, 1, [[0]])
        make_all_sure(house)
        house.read_wire(0)
        make_all_sure(house)
        while house.nodes[0].doings() < 59:
            house.cut(0, 1, 1)
        before = picture(house.nodes[1])
        self.assertEqual([house.read_wire(1), house.read_wire(1), house.nodes[0].doings()], [1, 0, 60])
        make_all_sure(house)
        self.assertEqual(house.read_wire(2), 1)
        self.assertNotEqual(picture(house.nodes[1]), before)

    def test_reading_is_a_doing_only_if_it_changes_something(self):
        house = make_house(2, [(1, 1, 5, 1)], [(0, 9)])
        house.book(0, 0, 0, 0, 1, [[0]])
        make_all_sure(house)
        house.read_wire(0)
        house.read_wire(0)
        self.assertEqual([node.doings() for node in house.nodes], [1, 1])


class AfterStartTest(unittest.TestCase):
    def test_more_nodes(self):
        self.assertEqual(
            ask(start(4), flight(3, 1, 5, 1), account(3, 9), book(3, 3, GREATEST, 0, 1, [[0]]), cut(3, 0, 0),
                cut(2, 0, 0), wire(0)),
            [4, 0, 0, 0, 0, -3, -3])


if __name__ == "__main__":
    unittest.main()
