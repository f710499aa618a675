"""The interface: how calls stand in the list, what is given back, and that nothing is kept or changed."""

import unittest

from bookinghouse.cluster import answers

MIXED = [0, 3, 1, 2, 9, 5, 1, 1, 0, 9, 5, 1, 2, 1, 100, 3, 1, 2, 7, 0, 2, 5, 2, 0, 1, 1, 1, 4, 1, 2, 8, 0, 5, 2, 0, 3,
         6, 0, 0, 9, 3, 0, 0, 0, 0, 1, 0, 1, 0, 1, 1, 1]
# Behind it: the booking goes out, node 2 keeps its cut and loses the hold that it read, then all is read.
READ = MIXED + [7, 1, 13, 0, 6, 0, 8, 2, 1, 9, 10, 1, 0, 11, 0, 11, 2, 12, 1, 13, 6, 13, 7]


class InterfaceTest(unittest.TestCase):
    def test_calls_one_behind_another(self):
        self.assertEqual(
            answers(MIXED), [1, 3, 1, 0, 1, 1, 1, 0, 1, 0, 1, -6, 1, 0, 1, -3, 1, -1, 1, -1, 1, -4])

    def test_calls_that_are_answered_several_numbers(self):
        self.assertEqual(
            answers(READ)[22:],
            [2, 1, 2, 15, 2, 2, 0, 1, 0, 1, 0, 2, 0, 0, 1, 0, 1, 1, 2, 1, 1, 2, 1, 2, 2, 6, 6, 6, 1, 0, 1, 2, 1, 0,
             10, 3, 0, 2, 18, 1, 1, 0, 1, 2, 3, 1, -3, 3, 1, 64, 0, 1, 0, 1, -3])

    def test_one_call(self):
        self.assertEqual(answers([0, 4]), [1, 4])
        self.assertEqual(answers([6, 4294967295]), [1, -3])
        self.assertEqual(answers([3, 0, 0, 0, 0, 1, 0]), [1, -1])
        self.assertEqual(answers([9]), [2, 0, 0])
        self.assertEqual(answers([13, 0]), [1, 0])
        self.assertEqual(answers([12, 1]), [2, 0, 0])

    def test_what_is_handed_in_is_not_changed(self):
        for given in (MIXED, READ):
            calls = list(given)
            answers(calls)
            self.assertEqual(calls, given)

    def test_nothing_is_kept(self):
        self.assertEqual(answers(MIXED), answers(MIXED))
        self.assertEqual(answers(READ), answers(READ))
        self.assertEqual(answers([1, 0, 1, 1, 1]), [1, 0])
        self.assertEqual(answers([1, 0, 1, 1, 1]), [1, 0])

    def test_what_is_given_back_is_a_new_list_of_ints(self):
        first = answers(READ)
        self.assertIs(type(first), list)
        self.assertEqual({type(number) for number in first}, {int})
        length = len(first)
        first.clear()
        self.assertEqual(len(answers(READ)), length)

    def test_sixty_calls(self):
        calls = [1, 0, 1, 1, 1, 2, 0, 9999]
        for number in range(58):
            calls += [3, 0, 3, 4294967295 - number, 0, 1, 24] + [0] * 24
        self.assertEqual(answers(calls), [1, 0, 1, 0] + [1, -1] * 58)


if __name__ == "__main__":
    unittest.main()
