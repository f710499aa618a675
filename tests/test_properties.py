"""What holds of the whole, seen through random lists of calls: seats, money, all or none, and what is lost."""

import random
import unittest

from helper import (account, ask_lists, board, book, booking, cancel, cut, flight, messages, money, power, quiet, start,
                    sure, wire)

NODES = 3
FLIGHTS = 4
# Clients and numbers of random_call allow for no more bookings at a node.
LOOKED_AT = 4


def random_ready(source):
    ready = [start(NODES)]
    for f in range(FLIGHTS):
        ready.append(flight(f % NODES, source.randrange(12), source.randrange(7), source.randrange(3)))
    return ready + [account(d, source.randrange(40, 150)) for d in range(NODES)]


def random_call(source):
    d = source.randrange(NODES)
    client, number = source.randrange(2), source.randrange(2)
    what = source.randrange(30)
    if what < 6:
        choices = [source.sample(range(FLIGHTS), source.randint(1, 3)) for turn in range(source.randint(1, 3))]
        return book(d, client, number, 0, source.randint(1, 4), choices)
    if what < 9:
        return cancel(d, client, number + 2, source.randrange(3))
    if what < 11:
        of_flight = source.randrange(FLIGHTS)
        return cut(of_flight % NODES, of_flight, source.randrange(9))
    if what < 14:
        return sure(d)
    if what < 17:
        return power(d, source.randrange(3))
    if what < 19:
        return quiet()
    return wire(source.randrange(20))


def looks():
    calls = [messages(0)] + [board(f) for f in range(FLIGHTS)] + [money(d) for d in range(NODES)]
    return calls + [booking(d, b) for d in range(NODES) for b in range(LOOKED_AT)]


def entries_of_board(told):
    return [tuple(told[at:at + 5]) for at in range(5, len(told), 5)]


class Journal:
    """Which calls of a list are doings at which node, told by the answers alone."""

    def __init__(self, calls, given, wire_told):
        self.calls = calls
        self.given = given
        self.nodes_told = wire_told[1::7]
        self.unsure = [[] for d in range(NODES)]
        self.done = {}
        self.kept = []

    def node_of(self, at):
        call = self.calls[at]
        if call[0] in (3, 4, 5):
            return call[1]
        if call[0] == 6 and call[1] < len(self.nodes_told):
            return self.nodes_told[call[1]]
        return None

    def is_doing(self, at):
        call, answer = self.calls[at], self.given[at][0]
        if call[0] in (3, 4):
            return answer >= 0 and tuple(call[1:4]) not in self.done
        return call[0] == 5 and answer >= 0 or call[0] == 6 and answer == 1

    def go(self):
        """The list with all that is lost left out, and each power a sure."""
        for at, call in enumerate(self.calls):
            if call[0] == 7:
                self.unsure[call[1]] = []
            elif call[0] == 9:
                self.unsure = [[] for d in range(NODES)]
            elif call[0] == 8:
                self.lose(call[1], call[2])
                call = sure(call[1])
            elif self.is_doing(at):
                self.unsure[self.node_of(at)].append(at)
                if call[0] in (3, 4):
                    self.done[tuple(call[1:4])] = at
            self.kept.append((at, call))
        return self.kept

    def lose(self, d, n):
        lost = self.unsure[d][n:]
        self.unsure[d] = []
        if lost == []:
            return
        # What was answered at this node since may have been so only for what is lost: it's all left out.
        self.kept = [(at, call) for at, call in self.kept if at < lost[0] or self.node_of(at) != d]
        self.done = {request: at for request, at in self.done.items() if at not in lost}


class LostAsIfNeverDoneTest(unittest.TestCase):
    def test_lists_with_what_is_lost_left_out(self):
        shorter = 0
        for seed in range(1000):
            source = random.Random(seed)
            ready = random_ready(source)
            calls = ready + [random_call(source) for turn in range(60 - len(ready) - len(looks()))]
            given = ask_lists(*calls, *looks())
            kept = Journal(calls, given, given[len(calls)]).go()
            again = ask_lists(*[call for at, call in kept], *looks())
            self.assertEqual(again[:len(kept)], [given[at] for at, call in kept])
            self.assertEqual(again[len(kept):], given[len(calls):])
            shorter += len(kept) < len(calls)
        self.assertGreater(shorter, 300)


class BehindAllMessagesTest(unittest.TestCase):
    def taken_of(self, told, over):
        """The tries that took seats, when nothing is held any more and no more is sold than may be."""
        entries = entries_of_board(told)
        self.assertEqual(told[4], len(entries))
        self.assertNotIn(1, [entry[4] for entry in entries])
        taken = [entry for entry in entries if entry[4] == 3]
        self.assertEqual(told[1:3], [0, sum([entry[3] for entry in taken])])
        self.assertLessEqual(told[2], told[0] + over)
        return {entry[:3]: entry[3] for entry in taken}

    def check_all_or_none(self, bookings, taken):
        """Who is confirmed took the same seats on all flights that said held; nobody else took any."""
        expected = [{} for f in range(FLIGHTS)]
        for (d, b), state in bookings.items():
            self.assertIn(state[0], (1, 2, 3))
            if state[0] == 1:
                seats = taken[state[4]][(d, b, state[2])]
                for f in state[4:]:
                    expected[f][(d, b, state[2])] = seats
        self.assertEqual(taken, expected)

    def test_nothing_is_half_done_and_no_money_lost_or_made(self):
        confirmed = 0
        for seed in range(300):
            source = random.Random(seed)
            ready = random_ready(source)
            calls = ready + [random_call(source) for turn in range(25)] + [quiet()]
            given = ask_lists(*calls, *[sure(d) for d in range(NODES)], *looks())[len(calls):]
            if 60 in [told[0] for told in given[:NODES]]:
                continue
            boards = given[NODES + 1:NODES + 1 + FLIGHTS]
            moneys = given[NODES + 1 + FLIGHTS:2 * NODES + 1 + FLIGHTS]
            places = [(d, b) for d in range(NODES) for b in range(LOOKED_AT)]
            bookings = {place: told for place, told in zip(places, given[2 * NODES + 1 + FLIGHTS:]) if told != [-3]}
            taken = [self.taken_of(boards[f], ready[1 + f][4]) for f in range(FLIGHTS)]
            self.check_all_or_none(bookings, taken)
            self.assertEqual(sum([sum(told[1:]) for told in moneys]) + sum([told[3] for told in boards]),
                             sum([call[2] for call in ready if call[0] == 2]))
            confirmed += sum([told[0] == 1 for told in bookings.values()])
        self.assertGreater(confirmed, 300)


if __name__ == "__main__":
    unittest.main()
