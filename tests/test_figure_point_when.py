import unittest

from asking import ask, ask_last, ask_of_wheel, begin, every_wheel, figure, places, point, walked, wheel, when


class Figure(unittest.TestCase):
    def figure_of(self, teeth, step):
        return ask_last(begin(teeth), wheel(step), figure(0))

    def test_no_divisor_shared(self):
        self.assertEqual(self.figure_of(12, 5), [12, 5, 1])
        self.assertEqual(self.figure_of(3, 1), [3, 1, 1])
        self.assertEqual(self.figure_of(3, 2), [3, 2, 1])
        self.assertEqual(self.figure_of(60, 59), [60, 59, 1])

    def test_divisor_shared(self):
        self.assertEqual(self.figure_of(12, 8), [3, 2, 4])
        self.assertEqual(self.figure_of(12, 4), [3, 1, 4])
        self.assertEqual(self.figure_of(60, 42), [10, 7, 6])

    def test_two_points(self):
        self.assertEqual(self.figure_of(4, 2), [2, 1, 2])
        self.assertEqual(self.figure_of(12, 6), [2, 1, 6])
        self.assertEqual(self.figure_of(60, 30), [2, 1, 30])

    def test_every_wheel_as_it_rolls(self):
        for teeth, step in every_wheel():
            points = places(teeth, step, 0)
            gap = sorted(points)[1]
            self.assertEqual(self.figure_of(teeth, step), [len(points), len(points) * step // teeth, gap])

    def test_no_such_wheel(self):
        self.assertEqual(ask(begin(12), figure(0), wheel(5), figure(1), figure(9), figure(0))[1:],
                         [[-2], [0], [-2], [-2], [12, 5, 1]])


class Point(unittest.TestCase):
    def point_of(self, teeth, step, begun, k):
        return ask_last(begin(teeth), wheel(step), point(0, begun, k))

    def test_begun(self):
        for begun in range(12):
            self.assertEqual(self.point_of(12, 5, begun, 0), [begun])

    def test_on_the_way(self):
        self.assertEqual(self.point_of(12, 5, 0, 1), [5])
        self.assertEqual(self.point_of(12, 5, 0, 3), [3])
        self.assertEqual(self.point_of(12, 5, 11, 1), [4])

    def test_behind_the_end(self):
        self.assertEqual(self.point_of(12, 8, 1, 3), [1])
        self.assertEqual(self.point_of(12, 8, 1, 4), [9])
        self.assertEqual(self.point_of(12, 5, 2, 12), [2])
        self.assertEqual(self.point_of(12, 5, 2, 25), [7])

    def test_greatest_k(self):
        self.assertEqual(self.point_of(12, 5, 0, 99999), [3])
        self.assertEqual(self.point_of(12, 5, 0, 100000), [8])
        self.assertEqual(self.point_of(60, 59, 59, 100000), [19])

    def test_k_too_great(self):
        self.assertEqual(self.point_of(12, 5, 0, 100001), [-1])
        self.assertEqual(self.point_of(12, 5, 0, 200000), [-1])

    def test_last_tooth_and_the_one_behind(self):
        for teeth in [3, 12, 60]:
            self.assertEqual(self.point_of(teeth, 1, teeth - 1, 1), [0])
            self.assertEqual(self.point_of(teeth, 1, teeth, 1), [-1])
            self.assertEqual(self.point_of(teeth, 1, 99, 1), [-1])

    def test_no_such_wheel_is_told_first(self):
        for call in [point(1, 0, 0), point(9, 0, 0), point(1, 12, 0), point(1, 0, 100001), point(1, 99, 200000)]:
            self.assertEqual(ask_last(begin(12), wheel(5), call), [-2])

    def test_its_own_wheel(self):
        told = ask(begin(12), wheel(5), wheel(4), wheel(11), point(0, 1, 1), point(1, 1, 1), point(2, 1, 1))
        self.assertEqual(told[4:], [[6], [5], [0]])

    def test_every_wheel_as_it_rolls(self):
        for teeth, step in every_wheel([3, 4, 9, 12, 30]):
            for begun in range(teeth):
                points = places(teeth, step, begun)
                calls = [point(0, begun, k) for k in range(2 * len(points))]
                self.assertEqual(ask_of_wheel(teeth, step, calls), [[place] for place in points + points])


class When(unittest.TestCase):
    def when_of(self, teeth, step, begun, tooth):
        return ask_last(begin(teeth), wheel(step), when(0, begun, tooth))

    def test_where_it_is_begun(self):
        for teeth, step in [(12, 5), (12, 6), (12, 8), (3, 1)]:
            for begun in range(teeth):
                self.assertEqual(self.when_of(teeth, step, begun, begun), [0, 0])

    def test_begun_at_0(self):
        self.assertEqual(self.when_of(12, 5, 0, 5), [1, 0])
        self.assertEqual(self.when_of(12, 5, 0, 10), [2, 0])
        self.assertEqual(self.when_of(12, 5, 0, 3), [3, 1])
        self.assertEqual(self.when_of(12, 5, 0, 7), [11, 4])

    def test_onto_tooth_0(self):
        self.assertEqual(self.when_of(12, 5, 7, 0), [1, 1])
        self.assertEqual(self.when_of(12, 5, 2, 0), [2, 1])
        self.assertEqual(self.when_of(12, 5, 5, 0), [11, 5])
        self.assertEqual(self.when_of(3, 1, 2, 0), [1, 1])

    def test_past_tooth_0(self):
        self.assertEqual(self.when_of(12, 5, 8, 1), [1, 1])
        self.assertEqual(self.when_of(12, 11, 11, 10), [1, 1])
        self.assertEqual(self.when_of(12, 8, 6, 10), [2, 1])

    def test_onto_tooth_0_and_further(self):
        self.assertEqual(self.when_of(12, 4, 8, 4), [2, 1])

    def test_never(self):
        self.assertEqual(self.when_of(12, 8, 0, 1), [-6])
        self.assertEqual(self.when_of(12, 6, 5, 0), [-6])
        self.assertEqual(self.when_of(60, 30, 0, 59), [-6])

    def test_no_such_tooth(self):
        self.assertEqual(self.when_of(12, 5, 11, 11), [0, 0])
        for begun, tooth in [(12, 0), (0, 12), (12, 12), (99, 0), (0, 99), (99, 99)]:
            self.assertEqual(self.when_of(12, 5, begun, tooth), [-1])

    def test_no_such_tooth_is_told_before_never(self):
        self.assertEqual(self.when_of(12, 6, 0, 13), [-1])
        self.assertEqual(self.when_of(12, 6, 13, 0), [-1])

    def test_no_such_wheel_is_told_first(self):
        for call in [when(1, 0, 0), when(1, 12, 0), when(1, 0, 12), when(9, 99, 99), when(1, 0, 1)]:
            self.assertEqual(ask_last(begin(12), wheel(6), call), [-2])

    def test_every_wheel_as_it_rolls(self):
        for teeth, step in every_wheel([3, 4, 9, 12, 30]):
            for begun in range(teeth):
                come = {}
                for k, (place, passed) in enumerate(walked(teeth, step, begun)):
                    come[place] = [k, passed]
                calls = [when(0, begun, tooth) for tooth in range(teeth)]
                self.assertEqual(ask_of_wheel(teeth, step, calls),
                                 [come.get(tooth, [-6]) for tooth in range(teeth)])


if __name__ == "__main__":
    unittest.main()
