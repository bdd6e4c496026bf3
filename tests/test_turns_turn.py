import unittest

from asking import (ask, ask_last, ask_of_wheel, ask_of_wheels, begin, every_wheel, laid_in_turn, point, turn, turns,
                    wheel)


def counted_turns(teeth, step, other):
    """To how many teeth two wheels in turn come, and when they close."""
    # Both stand at the beginning again, with the first one next, after two
    # points for each tooth at the latest; what holds so long holds for ever.
    most = 2 * teeth
    points = laid_in_turn(teeth, step, other, 0, 2 * most)
    fewest = min(many for many in range(1, most + 1) if points[many:many + most] == points[:most])
    return [len(set(points)), fewest]


class Turns(unittest.TestCase):
    def turns_of(self, teeth, step, other):
        return ask_last(begin(teeth), wheel(step), wheel(other), turns(0, 1))

    def test_the_same_wheel_with_an_even_number_of_points(self):
        self.assertEqual(ask_last(begin(12), wheel(5), turns(0, 0)), [12, 12])
        self.assertEqual(ask_last(begin(12), wheel(3), turns(0, 0)), [4, 4])
        self.assertEqual(ask_last(begin(12), wheel(6), turns(0, 0)), [2, 2])
        self.assertEqual(ask_last(begin(4), wheel(2), turns(0, 0)), [2, 2])

    def test_the_same_wheel_with_an_odd_number_of_points(self):
        self.assertEqual(ask_last(begin(12), wheel(8), turns(0, 0)), [3, 3])
        self.assertEqual(ask_last(begin(3), wheel(1), turns(0, 0)), [3, 3])
        self.assertEqual(ask_last(begin(59), wheel(58), turns(0, 0)), [59, 59])

    def test_two_wheels_of_as_many_teeth(self):
        self.assertEqual(self.turns_of(12, 8, 8), [3, 3])
        self.assertEqual(self.turns_of(12, 3, 3), [4, 4])
        self.assertEqual(self.turns_of(15, 6, 6), [5, 5])

    def test_together_as_many_teeth_as_the_ring(self):
        for teeth in range(3, 61):
            for step in range(1, teeth):
                self.assertEqual(self.turns_of(teeth, step, teeth - step), [2, 2])

    def test_both_wheels_points_on_the_same_teeth(self):
        self.assertEqual(self.turns_of(12, 3, 6), [4, 8])
        self.assertEqual(self.turns_of(12, 2, 3), [12, 24])
        self.assertEqual(self.turns_of(5, 1, 2), [5, 10])
        self.assertEqual(self.turns_of(60, 7, 4), [60, 120])

    def test_both_wheels_points_on_other_teeth(self):
        self.assertEqual(self.turns_of(12, 1, 3), [6, 6])
        self.assertEqual(self.turns_of(12, 1, 2), [8, 8])
        self.assertEqual(self.turns_of(12, 5, 1), [4, 4])
        self.assertEqual(self.turns_of(60, 59, 58), [40, 40])

    def test_together_more_teeth_than_the_ring(self):
        self.assertEqual(self.turns_of(12, 11, 10), [8, 8])
        self.assertEqual(self.turns_of(12, 10, 9), [12, 24])

    def test_every_two_wheels_as_they_are_laid(self):
        for teeth, step in every_wheel([3, 4, 5, 6, 7, 8, 9, 10, 12, 15, 16, 18, 24, 30]):
            for other in range(1, teeth):
                self.assertEqual(self.turns_of(teeth, step, other), counted_turns(teeth, step, other),
                                 (teeth, step, other))

    def test_greatest_rings_as_they_are_laid(self):
        for teeth in [59, 60]:
            for step in [1, 2, 15, 20, 29, 30, 31, 45, 58]:
                for other in range(1, teeth):
                    self.assertEqual(self.turns_of(teeth, step, other), counted_turns(teeth, step, other),
                                     (teeth, step, other))

    def test_names_its_own_wheels(self):
        told = ask_of_wheels(12, [1, 3, 11], [turns(0, 1), turns(2, 0), turns(1, 1), turns(1, 2)])
        self.assertEqual(told, [[6, 6], [2, 2], [4, 4], [12, 12]])

    def test_no_such_wheel(self):
        told = ask(begin(12), turns(0, 0), wheel(5), turns(0, 1), turns(1, 0), turns(9, 0), turns(0, 9), turns(1, 1),
                   turns(0, 0))
        self.assertEqual(told[1:], [[-2], [0], [-2], [-2], [-2], [-2], [-2], [12, 12]])


class Turn(unittest.TestCase):
    def turn_of(self, teeth, step, other, begun, k):
        return ask_last(begin(teeth), wheel(step), wheel(other), turn(0, 1, begun, k))

    def test_begun(self):
        for begun in range(12):
            self.assertEqual(self.turn_of(12, 5, 3, begun, 0), [begun])

    def test_first_points(self):
        self.assertEqual(self.turn_of(12, 5, 3, 0, 1), [5])
        self.assertEqual(self.turn_of(12, 5, 3, 0, 2), [8])
        self.assertEqual(self.turn_of(12, 5, 3, 0, 3), [1])
        self.assertEqual(self.turn_of(12, 5, 3, 11, 1), [4])
        self.assertEqual(self.turn_of(12, 5, 3, 11, 2), [7])

    def test_in_either_order(self):
        calls = [turn(0, 1, 2, 1), turn(1, 0, 2, 1), turn(0, 1, 2, 2), turn(1, 0, 2, 2), turn(1, 0, 2, 3)]
        self.assertEqual(ask_of_wheels(12, [5, 3], calls), [[7], [5], [10], [10], [1]])

    def test_behind_the_end(self):
        # Of 5 and 3 teeth in turn on a ring of 12 there are 6 points.
        self.assertEqual(self.turn_of(12, 5, 3, 2, 6), [2])
        self.assertEqual(self.turn_of(12, 5, 3, 2, 7), [7])
        self.assertEqual(self.turn_of(12, 5, 3, 2, 20), [10])

    def test_greatest_k(self):
        self.assertEqual(self.turn_of(12, 5, 3, 1, 99999), [2])
        self.assertEqual(self.turn_of(12, 5, 3, 1, 100000), [5])
        self.assertEqual(self.turn_of(60, 59, 58, 59, 100000), [59])

    def test_k_too_great(self):
        self.assertEqual(self.turn_of(12, 5, 3, 1, 100001), [-1])
        self.assertEqual(self.turn_of(12, 5, 3, 1, 200000), [-1])

    def test_every_k_as_it_is_laid(self):
        laid = laid_in_turn(60, 59, 31, 7, 100001)
        some = list(range(0, 500)) + list(range(500, 100001, 997)) + list(range(99900, 100001))
        self.assertEqual(ask_of_wheels(60, [59, 31], [turn(0, 1, 7, k) for k in some]), [[laid[k]] for k in some])

    def test_every_two_wheels_as_they_are_laid(self):
        for teeth, step in every_wheel([3, 4, 9, 12]):
            for other in range(1, teeth):
                for begun in range(teeth):
                    laid = laid_in_turn(teeth, step, other, begun, 3 * teeth)
                    calls = [turn(0, 1, begun, k) for k in range(3 * teeth)]
                    self.assertEqual(ask_of_wheels(teeth, [step, other], calls), [[place] for place in laid])

    def test_the_same_wheel_twice_as_point_answers(self):
        for teeth, step in every_wheel([3, 4, 9, 12, 60]):
            some = [0, 1, 2, 3, teeth - 1, teeth, 2 * teeth + 1, 99999, 100000, 100001, 200000]
            told = ask_of_wheel(teeth, step, [turn(0, 0, teeth - 1, k) for k in some])
            self.assertEqual(told, ask_of_wheel(teeth, step, [point(0, teeth - 1, k) for k in some]))

    def test_last_tooth_and_the_one_behind(self):
        for teeth in [3, 12, 60]:
            self.assertEqual(self.turn_of(teeth, 1, 2, teeth - 1, 0), [teeth - 1])
            self.assertEqual(self.turn_of(teeth, 1, 2, teeth - 1, 1), [0])
            self.assertEqual(self.turn_of(teeth, 1, 2, teeth, 1), [-1])
            self.assertEqual(self.turn_of(teeth, 1, 2, 99, 1), [-1])

    def test_no_such_wheel_is_told_first(self):
        for wheels in [(2, 0), (0, 2), (9, 0), (0, 9), (2, 2)]:
            for begun, k in [(0, 0), (12, 0), (99, 0), (0, 100001), (99, 200000)]:
                self.assertEqual(ask_last(begin(12), wheel(5), wheel(3), turn(*wheels, begun, k)), [-2])

    def test_no_such_tooth_together_with_k_too_great(self):
        self.assertEqual(self.turn_of(12, 5, 3, 12, 100001), [-1])


if __name__ == "__main__":
    unittest.main()
