"""What holds of the whole: seats, money, all flights or none, and the journal."""

import random
import unittest

from helper import make_all_sure, make_house, messages_of, read_all, unsaid_of


def random_choices(source, flights):
    return [source.sample(range(flights), source.randint(1, 3)) for turn in range(source.randint(1, 3))]


def random_step(source, house):
    d = source.randrange(len(house.nodes))
    client, number = source.randrange(2), source.randrange(3)
    what = source.randrange(12)
    if what < 2:
        house.book(d, client, number, source.randrange(2), source.randint(1, 4), random_choices(source, 4))
    elif what == 2:
        house.cancel(d, client, number + 3, source.randrange(3))
    elif what == 3:
        house.cut(d, source.randrange(4), source.randrange(9))
    elif what < 6:
        house.make_sure(d)
    elif len(house.wire) > 0:
        house.read_wire(source.randrange(len(house.wire)))


class RandomRunsTest(unittest.TestCase):
    def check_desks(self, house):
        for node in house.nodes:
            for desk in node.desks.values():
                taken = [entry for entry in desk.entries if entry.fate == 3]
                self.assertTrue(desk.sold() <= desk.may_be_sold() or taken == [])
                self.assertEqual(desk.earned, desk.price * sum(entry.seats for entry in taken))

    def check_all_or_none(self, house):
        expected = set()
        for d, node in enumerate(house.nodes):
            for b, booking in enumerate(node.home.bookings):
                self.assertNotEqual(booking.standing, 0)
                if booking.standing == 1:
                    for flight in booking.choices[booking.choice]:
                        expected.add((flight, d, b, booking.attempts, booking.seats))
        found = set()
        for node in house.nodes:
            for flight, desk in node.desks.items():
                for entry in desk.entries:
                    self.assertNotEqual(entry.fate, 1)
                    if entry.fate == 3:
                        found.add((flight,) + entry.attempt + (entry.seats,))
        self.assertEqual(found, expected)

    def money(self, house):
        earned = sum(desk.earned for node in house.nodes for desk in node.desks.values())
        return earned + sum(sum(node.home.moneys) + node.home.fees for node in house.nodes)

    def test_behind_all_messages_nothing_is_half_done(self):
        finished = 0
        for seed in range(300):
            source = random.Random(seed)
            flights = [(f % 3, source.randrange(12), source.randrange(7), source.randrange(3)) for f in range(4)]
            house = make_house(3, flights, [(d % 3, source.randrange(150)) for d in range(6)])
            before = self.money(house)
            for turn in range(60):
                random_step(source, house)
                self.check_desks(house)
            read_all(house)
            if any([node.is_full() for node in house.nodes]):
                continue
            finished += 1
            self.check_desks(house)
            self.check_all_or_none(house)
            self.assertEqual(self.money(house), before)
        self.assertGreater(finished, 200)


class JournalTest(unittest.TestCase):
    def test_what_is_to_be_said_waits_doing_by_doing(self):
        house = make_house(2, [(1, 1, 5, 0), (0, 2, 5, 0)], [(0, 50)])
        house.book(0, 0, 0, 0, 1, [[1, 0]])
        house.cut(0, 1, 4)
        house.book(0, 0, 1, 0, 1, [[0]])
        self.assertEqual(unsaid_of(house, 0), [[(0, 0, 1, 1), (1, 0, 1, 0)], [], [(1, 0, 1, 0)]])
        self.assertEqual((house.wire, house.nodes[0].doings()), ([], 3))
        house.make_sure(0)
        self.assertEqual(messages_of(house), [(0, 0, 0, 0, 1, 1, 1), (1, 0, 0, 0, 1, 0, 1), (1, 0, 0, 1, 1, 0, 1)])
        self.assertEqual((unsaid_of(house, 0), house.nodes[0].doings()), ([], 3))
        house.make_sure(0)
        self.assertEqual(len(house.wire), 3)

    def test_a_journey_over_two_nodes(self):
        house = make_house(3, [(1, 5, 2, 0), (2, 3, 2, 0)], [(0, 50)])
        house.book(0, 0, 0, 0, 2, [[0, 1]])
        make_all_sure(house)
        self.assertEqual([house.read_wire(1), house.read_wire(0)], [1, 1])
        make_all_sure(house)
        self.assertEqual([house.read_wire(3), house.read_wire(2), house.read_wire(3)], [1, 1, 0])
        make_all_sure(house)
        self.assertEqual(
            messages_of(house),
            [(1, 0, 0, 0, 1, 0, 2), (2, 0, 0, 0, 1, 1, 2), (0, 1, 0, 0, 1, 0, 2), (0, 1, 0, 0, 1, 1, 2),
             (1, 3, 0, 0, 1, 0, 2), (2, 3, 0, 0, 1, 1, 2)])
        self.assertEqual(house.nodes[0].home.bookings[0].noted, [1, 0])
        self.assertEqual([house.read_wire(m) for m in range(6)], [0, 0, 0, 0, 1, 1])
        self.assertEqual([node.doings() for node in house.nodes], [3, 2, 2])
        self.assertEqual([house.nodes[1].desks[0].earned, house.nodes[2].desks[1].earned], [10, 6])
        self.assertEqual(house.nodes[0].home.moneys, [34])


if __name__ == "__main__":
    unittest.main()
