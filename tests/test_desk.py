"""Flights, at their nodes: what messages do to a flight's entries."""

import unittest

from bookinghouse.desk import Desk
from bookinghouse.messages import Message

HOLD, HELD, FULL, TAKE, FREE, GIVE_BACK, BUMPED = range(7)
FIRST = (1, 0, 1)
SECOND = (0, 4, 2)
THIRD = (1, 0, 2)


def tell(desk, says, attempt, seats):
    """Read one message; what is said for it (to which node, what, the try, the flight, seats), None if no change."""
    message = Message(0, says, attempt, 5, seats)
    if not desk.heeds(message):
        return None
    return [(m.node, m.says, m.attempt, m.flight, m.seats) for m in desk.read(message)]


def entries(desk):
    return [(e.attempt, e.seats, e.fate) for e in desk.entries]


class DeskTest(unittest.TestCase):
    def setUp(self):
        self.desk = Desk(5, 10, 4, 2)

    def test_hold(self):
        self.assertEqual(tell(self.desk, HOLD, FIRST, 6), [(1, HELD, FIRST, 5, 6)])
        self.assertEqual(tell(self.desk, HOLD, SECOND, 1), [(0, FULL, SECOND, 5, 1)])
        self.assertEqual(entries(self.desk), [(FIRST, 6, 1), (SECOND, 1, 2)])
        self.assertEqual((self.desk.sold(), self.desk.earned), (6, 0))

    def test_refused_seats_are_not_sold(self):
        self.assertEqual(tell(self.desk, HOLD, FIRST, 7), [(1, FULL, FIRST, 5, 7)])
        self.assertEqual(tell(self.desk, HOLD, SECOND, 6), [(0, HELD, SECOND, 5, 6)])

    def test_hold_changes_nothing_of_a_try_with_an_entry(self):
        tell(self.desk, HOLD, FIRST, 6)
        tell(self.desk, HOLD, SECOND, 1)
        self.assertIsNone(tell(self.desk, HOLD, FIRST, 6))
        tell(self.desk, FREE, FIRST, 6)
        self.assertIsNone(tell(self.desk, HOLD, SECOND, 1))
        self.assertIsNone(tell(self.desk, HOLD, FIRST, 6))

    def test_tries_of_one_booking_are_told_apart(self):
        tell(self.desk, HOLD, FIRST, 2)
        tell(self.desk, HOLD, THIRD, 2)
        self.assertEqual(entries(self.desk), [(FIRST, 2, 1), (THIRD, 2, 1)])

    def test_take(self):
        tell(self.desk, HOLD, FIRST, 2)
        tell(self.desk, HOLD, SECOND, 3)
        self.assertEqual(tell(self.desk, TAKE, FIRST, 2), [])
        self.assertEqual(entries(self.desk), [(SECOND, 3, 1), (FIRST, 2, 3)])
        self.assertEqual((self.desk.sold(), self.desk.earned), (5, 20))

    def test_take_changes_nothing_of_one_that_is_not_held(self):
        self.assertIsNone(tell(self.desk, TAKE, FIRST, 2))
        tell(self.desk, HOLD, FIRST, 7)
        self.assertIsNone(tell(self.desk, TAKE, FIRST, 7))
        tell(self.desk, FREE, FIRST, 7)
        self.assertIsNone(tell(self.desk, TAKE, FIRST, 7))
        tell(self.desk, HOLD, SECOND, 2)
        tell(self.desk, TAKE, SECOND, 2)
        self.assertIsNone(tell(self.desk, TAKE, SECOND, 2))
        self.desk.cut(0)
        self.desk.over = 0
        self.desk.level()
        self.assertEqual(self.desk.fate_of(SECOND), 5)
        self.assertIsNone(tell(self.desk, TAKE, SECOND, 2))

    def test_free_and_give_back_of_one_held(self):
        for says in (FREE, GIVE_BACK):
            desk = Desk(5, 10, 4, 2)
            tell(desk, HOLD, FIRST, 2)
            tell(desk, HOLD, SECOND, 3)
            self.assertEqual(tell(desk, says, FIRST, 2), [])
            self.assertEqual(entries(desk), [(SECOND, 3, 1), (FIRST, 2, 4)])
            self.assertEqual((desk.sold(), desk.earned), (3, 0))
            self.assertIsNone(tell(desk, says, FIRST, 2))

    def test_free_and_give_back_of_one_refused(self):
        for says in (FREE, GIVE_BACK):
            desk = Desk(5, 10, 4, 2)
            tell(desk, HOLD, FIRST, 7)
            tell(desk, HOLD, SECOND, 3)
            self.assertEqual(tell(desk, says, FIRST, 7), [])
            self.assertEqual(entries(desk), [(SECOND, 3, 1), (FIRST, 7, 4)])

    def test_free_and_give_back_of_one_not_heard_of(self):
        for says in (FREE, GIVE_BACK):
            desk = Desk(5, 10, 4, 2)
            tell(desk, HOLD, SECOND, 3)
            self.assertEqual(tell(desk, says, FIRST, 2), [])
            self.assertEqual(entries(desk), [(SECOND, 3, 1), (FIRST, 2, 4)])
            for later in (HOLD, TAKE, FREE, GIVE_BACK):
                self.assertIsNone(tell(desk, later, FIRST, 2))

    def test_of_one_taken_only_give_back_changes_something(self):
        tell(self.desk, HOLD, FIRST, 2)
        tell(self.desk, HOLD, SECOND, 3)
        tell(self.desk, TAKE, FIRST, 2)
        tell(self.desk, TAKE, SECOND, 3)
        self.assertIsNone(tell(self.desk, FREE, FIRST, 2))
        self.assertIsNone(tell(self.desk, HOLD, FIRST, 2))
        self.assertEqual(tell(self.desk, GIVE_BACK, FIRST, 2), [])
        self.assertEqual(entries(self.desk), [(SECOND, 3, 3), (FIRST, 2, 4)])
        self.assertEqual((self.desk.sold(), self.desk.earned), (3, 30))

    def test_nothing_changes_one_bumped(self):
        tell(self.desk, HOLD, FIRST, 4)
        tell(self.desk, TAKE, FIRST, 4)
        tell(self.desk, HOLD, SECOND, 1)
        self.assertEqual(len(self.desk.cut(1)), 1)
        for says in (HOLD, TAKE, FREE, GIVE_BACK):
            self.assertIsNone(tell(self.desk, says, FIRST, 4))
        self.assertEqual(entries(self.desk), [(FIRST, 4, 5), (SECOND, 1, 1)])
        self.assertEqual((self.desk.sold(), self.desk.earned), (1, 0))

    def test_levelling_bumps_by_the_order_of_taking_not_of_holding(self):
        for attempt in (FIRST, SECOND, THIRD):
            tell(self.desk, HOLD, attempt, 2)
        for attempt in (SECOND, THIRD, FIRST):
            tell(self.desk, TAKE, attempt, 2)
        said = [(m.node, m.says, m.attempt, m.flight, m.seats) for m in self.desk.cut(1)]
        self.assertEqual(said, [(1, BUMPED, FIRST, 5, 2), (1, BUMPED, THIRD, 5, 2)])
        self.assertEqual(entries(self.desk), [(SECOND, 2, 3), (THIRD, 2, 5), (FIRST, 2, 5)])

    def test_levelling_stops_as_soon_as_no_more_are_sold_than_may_be(self):
        tell(self.desk, HOLD, FIRST, 1)
        tell(self.desk, HOLD, SECOND, 5)
        tell(self.desk, TAKE, FIRST, 1)
        tell(self.desk, TAKE, SECOND, 5)
        self.assertEqual([m.attempt for m in self.desk.cut(3)], [SECOND])

    def test_a_take_after_a_cut_bumps_what_stands_last(self):
        tell(self.desk, HOLD, FIRST, 2)
        tell(self.desk, HOLD, SECOND, 3)
        self.assertEqual(self.desk.cut(2), [])
        self.assertEqual(tell(self.desk, TAKE, FIRST, 2), [(1, BUMPED, FIRST, 5, 2)])
        self.assertEqual(tell(self.desk, TAKE, SECOND, 3), [])
        self.assertEqual(entries(self.desk), [(FIRST, 2, 5), (SECOND, 3, 3)])
        self.assertEqual((self.desk.sold(), self.desk.earned), (3, 30))

    def test_seats_bumped_may_be_sold_again(self):
        tell(self.desk, HOLD, FIRST, 6)
        tell(self.desk, TAKE, FIRST, 6)
        self.desk.cut(3)
        self.assertEqual(tell(self.desk, HOLD, SECOND, 5), [(0, HELD, SECOND, 5, 5)])


if __name__ == "__main__":
    unittest.main()
