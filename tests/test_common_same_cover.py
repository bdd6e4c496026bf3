import unittest

from asking import (ask, ask_last, ask_of_wheel, ask_of_wheels, begin, common, cover, every_wheel, figure, lines_of,
                    places, same, wheel)

RINGS = [3, 4, 5, 6, 8, 9, 12]


def both(ask_two, teeth, step, tooth, other_step, other_tooth):
    """The answer to common or same about a wheel 0 and a wheel 1."""
    return ask_last(begin(teeth), wheel(step), wheel(other_step), ask_two(0, tooth, 1, other_tooth))


def every_two(teeth):
    """All two wheels of a ring, with all two teeth to begin them at."""
    begun = [(tooth, other_tooth) for tooth in range(teeth) for other_tooth in range(teeth)]
    return [(step, other_step, begun) for step in range(1, teeth) for other_step in range(1, teeth)]


class Refusals:
    """What common and same refuse alike."""

    # On a ring of 12 teeth with two wheels.
    NO_WHEEL = [(2, 0, 0, 0), (9, 0, 0, 0), (0, 0, 2, 0), (0, 0, 9, 0), (2, 0, 2, 0)]
    NO_TOOTH = [(0, 12, 1, 0), (0, 99, 1, 0), (0, 0, 1, 12), (0, 0, 1, 99), (0, 12, 1, 12), (0, 0, 0, 12)]
    NEITHER = [(2, 12, 0, 0), (2, 0, 0, 12), (0, 12, 2, 0), (0, 0, 2, 12), (9, 99, 9, 99)]

    def told(self, numbers):
        return ask_last(begin(12), wheel(6), wheel(4), self.ASKED(*numbers))

    def test_no_such_wheel(self):
        for numbers in self.NO_WHEEL:
            self.assertEqual(self.told(numbers), [-2], numbers)

    def test_no_such_tooth(self):
        for numbers in self.NO_TOOTH:
            self.assertEqual(self.told(numbers), [-1], numbers)

    def test_no_such_wheel_is_told_first(self):
        for numbers in self.NEITHER:
            self.assertEqual(self.told(numbers), [-2], numbers)

    def test_no_wheel_in_the_box(self):
        self.assertEqual(ask_last(begin(12), self.ASKED(0, 0, 0, 0)), [-2])

    def test_last_teeth_are_there(self):
        for teeth in [3, 12, 60]:
            calls = [self.ASKED(0, teeth - 1, 0, teeth - 1), self.ASKED(0, teeth, 0, 0), self.ASKED(0, 0, 0, teeth)]
            told = ask_of_wheel(teeth, 1, calls)
            self.assertGreaterEqual(told[0][0], 0)
            self.assertEqual(told[1:], [[-1], [-1]])

    def test_wheels_of_a_ring_that_is_gone(self):
        self.assertEqual(ask_last(begin(12), wheel(6), wheel(4), begin(12), wheel(6), self.ASKED(0, 0, 1, 0)), [-2])


class Common(Refusals, unittest.TestCase):
    ASKED = staticmethod(common)

    def test_all_teeth(self):
        self.assertEqual(both(common, 12, 5, 3, 7, 8), [12, 0])
        self.assertEqual(both(common, 12, 1, 11, 11, 11), [12, 0])
        self.assertEqual(both(common, 3, 1, 2, 2, 1), [3, 0])
        self.assertEqual(both(common, 60, 59, 59, 1, 30), [60, 0])

    def test_all_of_one_figures_teeth(self):
        self.assertEqual(both(common, 12, 5, 0, 4, 6), [3, 2])
        self.assertEqual(both(common, 12, 4, 6, 5, 0), [3, 2])
        self.assertEqual(both(common, 12, 2, 1, 6, 9), [2, 3])

    def test_some_teeth(self):
        self.assertEqual(both(common, 12, 2, 0, 3, 0), [2, 0])
        self.assertEqual(both(common, 60, 4, 0, 6, 0), [5, 0])
        self.assertEqual(both(common, 12, 4, 0, 3, 0), [1, 0])

    def test_lowest_where_neither_is_begun(self):
        self.assertEqual(both(common, 12, 2, 1, 3, 0), [2, 3])
        self.assertEqual(both(common, 12, 4, 3, 3, 2), [1, 11])
        self.assertEqual(both(common, 12, 4, 10, 3, 5), [1, 2])
        self.assertEqual(both(common, 60, 24, 47, 45, 44), [1, 59])

    def test_none(self):
        self.assertEqual(both(common, 12, 2, 0, 2, 1), [0])
        self.assertEqual(both(common, 12, 6, 0, 4, 1), [0])
        self.assertEqual(both(common, 60, 30, 0, 30, 29), [0])
        self.assertEqual(both(common, 60, 24, 59, 45, 58), [0])

    def test_the_same_wheel_twice(self):
        calls = [common(0, 3, 0, 3), common(0, 3, 0, 11), common(0, 3, 0, 4), common(0, 11, 0, 7)]
        self.assertEqual(ask_of_wheel(12, 8, calls), [[3, 3], [3, 3], [0], [3, 3]])

    def test_names_its_own_wheels(self):
        told = ask_of_wheels(12, [6, 4, 1], [common(0, 0, 1, 0), common(2, 5, 0, 5), common(1, 1, 2, 0)])
        self.assertEqual(told, [[1, 0], [2, 5], [3, 1]])

    def test_every_two_figures_as_they_roll(self):
        for teeth in RINGS:
            for step, other_step, begun in every_two(teeth):
                told = ask_of_wheels(teeth, [step, other_step], [common(0, one, 1, two) for one, two in begun])
                for (one, two), given in zip(begun, told):
                    shared = sorted(set(places(teeth, step, one)) & set(places(teeth, other_step, two)))
                    self.assertEqual(given, [len(shared)] + shared[:1], (teeth, step, one, other_step, two))

    def test_great_ring_as_it_rolls(self):
        for step, other_step in [(24, 45), (20, 12), (15, 15), (30, 4), (36, 50)]:
            begun = [(one, two) for one in range(0, 60, 7) for two in range(60)]
            told = ask_of_wheels(60, [step, other_step], [common(0, one, 1, two) for one, two in begun])
            for (one, two), given in zip(begun, told):
                shared = sorted(set(places(60, step, one)) & set(places(60, other_step, two)))
                self.assertEqual(given, [len(shared)] + shared[:1], (step, one, other_step, two))


class Same(Refusals, unittest.TestCase):
    ASKED = staticmethod(same)

    def test_one_wheel_begun_at_two_teeth_of_a_figure(self):
        self.assertEqual(ask_of_wheel(12, 8, [same(0, 1, 0, 1), same(0, 1, 0, 5), same(0, 9, 0, 1)]), [[1]] * 3)
        self.assertEqual(ask_of_wheel(12, 5, [same(0, 0, 0, 11), same(0, 7, 0, 2)]), [[1]] * 2)

    def test_one_wheel_begun_at_teeth_of_two_figures(self):
        self.assertEqual(ask_of_wheel(12, 8, [same(0, 1, 0, 2), same(0, 1, 0, 0), same(0, 11, 0, 8)]), [[0]] * 3)
        self.assertEqual(ask_of_wheel(60, 30, [same(0, 0, 0, 29), same(0, 31, 0, 30)]), [[0]] * 2)

    def test_two_wheels_of_as_many_teeth(self):
        self.assertEqual(both(same, 12, 8, 1, 8, 5), [1])
        self.assertEqual(both(same, 12, 8, 1, 8, 6), [0])

    def test_drawn_the_other_way(self):
        for teeth in [3, 5, 12, 60]:
            for step in range(1, teeth):
                self.assertEqual(both(same, teeth, step, 2, teeth - step, 2), [1])
        self.assertEqual(both(same, 12, 8, 1, 4, 9), [1])
        self.assertEqual(both(same, 12, 8, 1, 4, 10), [0])
        self.assertEqual(both(same, 12, 5, 1, 7, 10), [1])

    def test_same_teeth_by_other_lines(self):
        self.assertEqual(both(same, 5, 1, 0, 2, 0), [0])
        self.assertEqual(both(same, 12, 1, 0, 5, 0), [0])
        self.assertEqual(both(same, 12, 7, 3, 1, 3), [0])
        self.assertEqual(both(same, 60, 12, 5, 24, 5), [0])
        self.assertEqual(both(same, 60, 36, 5, 24, 5), [1])

    def test_some_teeth_of_the_other_figure(self):
        self.assertEqual(both(same, 12, 2, 0, 4, 0), [0])
        self.assertEqual(both(same, 12, 6, 0, 3, 0), [0])

    def test_two_points(self):
        for teeth in [4, 6, 12, 60]:
            half = teeth // 2
            calls = [same(0, 0, 0, half), same(0, half + 1, 0, 1), same(0, 0, 0, 1), same(0, half, 1, 0)]
            self.assertEqual(ask_of_wheels(teeth, [half, half], calls), [[1], [1], [0], [1]])

    def test_every_two_figures_as_they_are_drawn(self):
        for teeth in RINGS:
            for step, other_step, begun in every_two(teeth):
                told = ask_of_wheels(teeth, [step, other_step], [same(0, one, 1, two) for one, two in begun])
                for (one, two), given in zip(begun, told):
                    like_points = set(places(teeth, step, one)) == set(places(teeth, other_step, two))
                    like_lines = lines_of(teeth, step, one) == lines_of(teeth, other_step, two)
                    self.assertEqual(given, [int(like_points and like_lines)], (teeth, step, one, other_step, two))


class Cover(unittest.TestCase):
    def cover_of(self, teeth, step):
        return ask_last(begin(teeth), wheel(step), cover(0))

    def test_no_divisor_shared(self):
        for teeth, step in [(3, 1), (3, 2), (12, 5), (12, 11), (60, 59), (59, 30)]:
            self.assertEqual(self.cover_of(teeth, step), [1])

    def test_divisor_shared(self):
        self.assertEqual(self.cover_of(12, 4), [4])
        self.assertEqual(self.cover_of(12, 8), [4])
        self.assertEqual(self.cover_of(12, 9), [3])
        self.assertEqual(self.cover_of(60, 42), [6])
        self.assertEqual(self.cover_of(60, 30), [30])
        self.assertEqual(self.cover_of(4, 2), [2])

    def test_every_wheel_as_it_rolls(self):
        for teeth, step in every_wheel():
            # Figures of one wheel never meet without being the same, so that
            # beginning at the first tooth left over takes the fewest.
            left = list(range(teeth))
            figures = 0
            while left:
                come_to = places(teeth, step, left[0])
                left = [tooth for tooth in left if tooth not in come_to]
                figures += 1
            self.assertEqual(self.cover_of(teeth, step), [figures], (teeth, step))

    def test_its_own_wheel(self):
        self.assertEqual(ask_of_wheels(12, [5, 4, 6], [cover(0), cover(1), cover(2)]), [[1], [4], [6]])

    def test_no_such_wheel(self):
        told = ask(begin(12), cover(0), wheel(4), cover(0), cover(1), cover(9), begin(12), cover(0), figure(0))
        self.assertEqual(told[1:], [[-2], [0], [4], [-2], [-2], [0], [-2], [-2]])


if __name__ == "__main__":
    unittest.main()
