"""Bookings, at their homes: how they are tried, and what messages do to them."""

import unittest

from bookinghouse.home import Home, Plan
from bookinghouse.messages import Message

HOLD, HELD, FULL, TAKE, FREE, GIVE_BACK, BUMPED = range(7)


def brief(messages):
    """To which node, what it says, home, booking, try, flight, seats."""
    return [(m.node, m.says) + m.attempt + (m.flight, m.seats) for m in messages]


class HomeTest(unittest.TestCase):
    def setUp(self):
        plans = [Plan(0, 10), Plan(1, 7), Plan(2, 30), Plan(1, 0)]
        self.home = Home(1, plans)
        self.home.moneys.extend([5, 100])

    def tell(self, says, which, flight, b=0):
        """Read one message; what is said for it, None if it changes nothing."""
        message = Message(1, says, (1, b, which), flight, self.home.bookings[b].seats)
        if not self.home.heeds(message):
            return None
        return brief(self.home.read(message))

    def state(self, b=0):
        booking = self.home.bookings[b]
        return (booking.standing, booking.choice, booking.attempts, booking.noted)

    def test_holds_all_flights_of_the_first_choice_in_order(self):
        said = brief(self.home.book(1, 2, [[2, 0, 1], [0]]))
        self.assertEqual(said, [(2, HOLD, 1, 0, 1, 2, 2), (0, HOLD, 1, 0, 1, 0, 2), (1, HOLD, 1, 0, 1, 1, 2)])
        self.assertEqual((self.state(), self.home.moneys), ((0, 0, 1, []), [5, 6]))

    def test_passes_choices_that_cannot_be_paid(self):
        said = brief(self.home.book(1, 4, [[2], [0, 2], [0, 1]]))
        self.assertEqual(said, [(0, HOLD, 1, 0, 1, 0, 4), (1, HOLD, 1, 0, 1, 1, 4)])
        self.assertEqual((self.state(), self.home.moneys), ((0, 2, 1, []), [5, 32]))

    def test_a_cost_that_is_all_the_account_has(self):
        self.assertEqual(len(self.home.book(1, 2, [[2, 0, 3], [0]])), 3)
        self.assertEqual(self.home.moneys, [5, 20])
        self.assertEqual(len(self.home.book(1, 2, [[0]])), 1)
        self.assertEqual(self.home.moneys, [5, 0])
        self.assertEqual(self.home.book(1, 2, [[1]]), [])
        self.assertEqual(self.state(2), (2, 1, 0, []))
        self.assertEqual(len(self.home.book(1, 9, [[3]])), 1)

    def test_confirmed_when_all_flights_said_held(self):
        self.home.book(1, 2, [[0, 1], [3]])
        self.assertEqual(self.tell(HELD, 1, 1), [])
        self.assertEqual(self.state(), (0, 0, 1, [1]))
        self.assertIsNone(self.tell(HELD, 1, 1))
        self.assertEqual(self.tell(HELD, 1, 0), [(0, TAKE, 1, 0, 1, 0, 2), (1, TAKE, 1, 0, 1, 1, 2)])
        self.assertEqual(self.state(), (1, 0, 1, [1, 0]))
        self.assertIsNone(self.tell(HELD, 1, 0))
        self.assertIsNone(self.tell(FULL, 1, 0))

    def test_full(self):
        self.home.book(1, 2, [[0, 1], [2]])
        self.tell(HELD, 1, 0)
        self.assertEqual(
            self.tell(FULL, 1, 1),
            [(0, FREE, 1, 0, 1, 0, 2), (1, FREE, 1, 0, 1, 1, 2), (2, HOLD, 1, 0, 2, 2, 2)])
        self.assertEqual((self.state(), self.home.moneys), ((0, 1, 2, []), [5, 40]))

    def test_full_at_the_last_choice(self):
        self.home.book(1, 2, [[0, 1]])
        self.tell(HELD, 1, 0)
        self.assertEqual(self.tell(FULL, 1, 1), [(0, FREE, 1, 0, 1, 0, 2), (1, FREE, 1, 0, 1, 1, 2)])
        self.assertEqual((self.state(), self.home.moneys), ((2, 1, 1, []), [5, 100]))
        for says in (HELD, FULL, BUMPED):
            self.assertIsNone(self.tell(says, 1, 0))

    def test_the_cost_is_had_back_before_the_next_choice_is_paid(self):
        self.home.book(1, 3, [[2], [2, 3]])
        self.assertEqual(self.home.moneys, [5, 10])
        self.tell(FULL, 1, 2)
        self.assertEqual((self.state(), self.home.moneys), ((0, 1, 2, []), [5, 10]))

    def test_choices_that_cannot_be_paid_are_passed_after_full_too(self):
        self.home.book(1, 2, [[0], [2], [1]])
        self.home.book(1, 2, [[2]])
        self.assertEqual(self.tell(FULL, 1, 0), [(0, FREE, 1, 0, 1, 0, 2), (1, HOLD, 1, 0, 2, 1, 2)])
        self.assertEqual((self.state(), self.home.moneys), ((0, 2, 2, []), [5, 26]))

    def test_messages_of_another_try_change_nothing(self):
        self.home.book(1, 1, [[0, 1], [0, 2]])
        self.tell(FULL, 1, 1)
        for says in (HELD, FULL, BUMPED):
            self.assertIsNone(self.tell(says, 1, 0))
            self.assertIsNone(self.tell(says, 3, 0))
        self.assertEqual(self.tell(HELD, 2, 0), [])

    def test_bumped(self):
        self.home.book(1, 2, [[0, 1], [3]])
        self.assertIsNone(self.tell(BUMPED, 1, 0))
        self.tell(HELD, 1, 0)
        self.tell(HELD, 1, 1)
        self.assertEqual(
            self.tell(BUMPED, 1, 1),
            [(0, GIVE_BACK, 1, 0, 1, 0, 2), (1, GIVE_BACK, 1, 0, 1, 1, 2), (1, HOLD, 1, 0, 2, 3, 2)])
        self.assertEqual((self.state(), self.home.moneys, self.home.fees), ((0, 1, 2, []), [5, 100], 0))
        self.assertIsNone(self.tell(BUMPED, 1, 0))

    def test_bumped_at_the_last_choice(self):
        self.home.book(1, 2, [[0, 1]])
        self.tell(HELD, 1, 1)
        self.tell(HELD, 1, 0)
        self.assertEqual(len(self.tell(BUMPED, 1, 0)), 2)
        self.assertEqual((self.state(), self.home.moneys), ((2, 1, 1, []), [5, 100]))

    def test_cancelled_changes_no_more(self):
        self.home.book(1, 2, [[0], [1]])
        self.tell(HELD, 1, 0)
        self.assertEqual(brief(self.home.cancel(0)), [(0, GIVE_BACK, 1, 0, 1, 0, 2)])
        self.assertEqual((self.state(), self.home.moneys, self.home.fees), ((3, 0, 1, [0]), [5, 98], 2))
        for says in (HELD, FULL, BUMPED):
            self.assertIsNone(self.tell(says, 1, 0))

    def test_bookings_are_told_apart(self):
        self.home.book(1, 1, [[0]])
        self.home.book(1, 1, [[0]])
        self.assertEqual(self.tell(HELD, 1, 0, 1), [(0, TAKE, 1, 1, 1, 0, 1)])
        self.assertEqual((self.state(0)[0], self.state(1)[0]), (0, 1))


if __name__ == "__main__":
    unittest.main()
