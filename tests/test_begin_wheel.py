import unittest

from asking import (ask, ask_last, begin, common, cover, crossings, figure, look, make, point, same, turn, turns,
                    wheel, when)


class Begin(unittest.TestCase):
    def test_rings_that_may_be(self):
        for teeth in range(3, 61):
            self.assertEqual(ask(begin(teeth)), [[0]])

    def test_rings_that_may_not_be(self):
        for teeth in [0, 1, 2, 61, 62, 99]:
            self.assertEqual(ask(begin(teeth)), [[-1]])

    def test_ring_has_the_teeth_told(self):
        for teeth in [3, 12, 60]:
            told = ask(begin(teeth), wheel(1), figure(0), point(0, teeth - 1, 0), point(0, teeth, 0))
            self.assertEqual(told[2:], [[teeth, 1, 1], [teeth - 1], [-1]])

    def test_second_begin_leaves_no_wheels(self):
        told = ask(begin(12), wheel(5), wheel(4), begin(10), figure(0), wheel(3), figure(0), figure(1))
        self.assertEqual(told, [[0], [0], [1], [0], [-2], [0], [10, 3, 1], [-2]])

    def test_begin_with_the_same_teeth_leaves_no_wheels(self):
        self.assertEqual(ask(begin(12), wheel(5), begin(12), figure(0)), [[0], [0], [0], [-2]])

    def test_refused_begin_changes_nothing(self):
        for teeth in [0, 2, 61, 99]:
            told = ask(begin(12), wheel(5), wheel(8), begin(teeth), figure(0), figure(1), wheel(11), wheel(12))
            self.assertEqual(told, [[0], [0], [1], [-1], [12, 5, 1], [3, 2, 4], [2], [-1]])


class WithoutBox(unittest.TestCase):
    # Each call but begin, once with numbers that a box would take and once
    # with numbers that it would refuse.
    CALLS = [
        wheel(1), wheel(0), figure(0), figure(9), point(0, 0, 0), point(9, 99, 200000), when(0, 0, 0), when(9, 99, 99),
        crossings(0), crossings(9), make(1), make(0), common(0, 0, 0, 0), common(9, 99, 9, 99), same(0, 0, 0, 0),
        same(9, 99, 9, 99), cover(0), cover(9), turns(0, 0), turns(9, 9), turn(0, 0, 0, 0), turn(9, 9, 99, 200000),
        look(),
    ]

    def test_each_alone(self):
        for call in self.CALLS:
            self.assertEqual(ask(call), [[-9]], call)

    def test_all_in_one_list(self):
        self.assertEqual(ask(*self.CALLS), [[-9]] * len(self.CALLS))

    def test_after_a_refused_begin(self):
        for teeth in [2, 61]:
            told = ask(begin(teeth), *self.CALLS)
            self.assertEqual(told, [[-1]] + [[-9]] * len(self.CALLS))

    def test_nothing_is_left_from_before_the_begin(self):
        self.assertEqual(ask(wheel(5), begin(12), figure(0), wheel(4)), [[-9], [0], [-2], [0]])


class Wheel(unittest.TestCase):
    def test_numbers_from_0_on(self):
        told = ask(begin(12), wheel(5), wheel(5), wheel(3), figure(0), figure(1), figure(2))
        self.assertEqual(told[1:], [[0], [1], [2], [12, 5, 1], [12, 5, 1], [4, 1, 3]])

    def test_fewest_and_most_teeth(self):
        for teeth in [3, 4, 12, 59, 60]:
            self.assertEqual(ask(begin(teeth), wheel(1), wheel(teeth - 1)), [[0], [0], [1]])

    def test_wrong_teeth(self):
        for teeth in [3, 12, 60]:
            told = ask(begin(teeth), wheel(0), wheel(teeth), wheel(teeth + 1), wheel(99), wheel(1))
            self.assertEqual(told, [[0], [-1], [-1], [-1], [-1], [0]])

    def test_sixth_and_seventh(self):
        told = ask(begin(12), *[wheel(step) for step in [1, 2, 3, 4, 5, 6, 7, 8]])
        self.assertEqual(told[1:], [[0], [1], [2], [3], [4], [5], [-5], [-5]])

    def test_refused_seventh_changes_nothing(self):
        told = ask(begin(12), *[wheel(step) for step in [1, 2, 3, 4, 5, 6, 7]], figure(5), figure(6))
        self.assertEqual(told[-3:], [[-5], [2, 1, 6], [-2]])

    def test_seventh_with_wrong_teeth(self):
        for step in [0, 12, 13, 99]:
            self.assertEqual(ask_last(begin(12), *[wheel(1)] * 6, wheel(step)), [-1])

    def test_six_again_after_a_begin(self):
        told = ask(begin(12), *[wheel(1)] * 6, begin(12), *[wheel(1)] * 7)
        self.assertEqual(told[7:], [[0], [0], [1], [2], [3], [4], [5], [-5]])


if __name__ == "__main__":
    unittest.main()
