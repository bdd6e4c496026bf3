import unittest

from asking import ask, ask_last, begin, crossings, every_wheel, lines_of, make, walked, wheel


def cross(one, other):
    if set(one) & set(other):
        return False
    return (one[0] < other[0] < one[1]) != (one[0] < other[1] < one[1])


def counted_crossings(teeth, step):
    lines = lines_of(teeth, step, 0)
    return sum(cross(lines[at], other) for at in range(len(lines)) for other in lines[at + 1:])


class Crossings(unittest.TestCase):
    def crossings_of(self, teeth, step):
        return ask_last(begin(teeth), wheel(step), crossings(0))

    def test_two_points(self):
        for teeth in range(4, 61, 2):
            self.assertEqual(self.crossings_of(teeth, teeth // 2), [0])

    def test_three_points(self):
        for teeth in range(3, 61, 3):
            self.assertEqual(self.crossings_of(teeth, teeth // 3), [0])
            self.assertEqual(self.crossings_of(teeth, 2 * teeth // 3), [0])

    def test_no_star(self):
        for teeth in [4, 5, 12, 60]:
            self.assertEqual(self.crossings_of(teeth, 1), [0])
            self.assertEqual(self.crossings_of(teeth, teeth - 1), [0])
        self.assertEqual(self.crossings_of(12, 3), [0])

    def test_stars(self):
        self.assertEqual(self.crossings_of(5, 2), [5])
        self.assertEqual(self.crossings_of(7, 2), [7])
        self.assertEqual(self.crossings_of(7, 3), [14])
        self.assertEqual(self.crossings_of(8, 3), [16])
        self.assertEqual(self.crossings_of(12, 5), [48])
        self.assertEqual(self.crossings_of(60, 29), [1680])

    def test_stars_on_some_teeth_alone(self):
        self.assertEqual(self.crossings_of(10, 4), [5])
        self.assertEqual(self.crossings_of(60, 24), [5])
        self.assertEqual(self.crossings_of(60, 25), [48])

    def test_same_drawn_the_other_way(self):
        for teeth in range(3, 61):
            for step in range(1, teeth):
                told = ask(begin(teeth), wheel(step), wheel(teeth - step), crossings(0), crossings(1))
                self.assertEqual(told[3], told[4])

    def test_every_wheel_as_counted(self):
        for teeth, step in every_wheel():
            self.assertEqual(self.crossings_of(teeth, step), [counted_crossings(teeth, step)], (teeth, step))

    def test_no_such_wheel(self):
        self.assertEqual(ask(begin(5), crossings(0), wheel(2), crossings(0), crossings(1), crossings(9))[1:],
                         [[-2], [0], [5], [-2], [-2]])


class Make(unittest.TestCase):
    def test_divides_the_ring(self):
        told = ask(begin(12), make(2), make(3), make(4), make(6), make(12))
        self.assertEqual(told[1:], [[1, 6], [2, 4, 8], [2, 3, 9], [2, 2, 10], [4, 1, 5, 7, 11]])

    def test_does_not_divide_the_ring(self):
        self.assertEqual(ask(begin(12), *[make(points) for points in [5, 7, 8, 9, 10, 11]])[1:], [[0]] * 6)

    def test_one_point(self):
        for teeth in [3, 12, 60]:
            self.assertEqual(ask_last(begin(teeth), make(1)), [0])

    def test_as_many_as_the_ring(self):
        self.assertEqual(ask_last(begin(3), make(3)), [2, 1, 2])
        self.assertEqual(ask_last(begin(60), make(60)),
                         [16, 1, 7, 11, 13, 17, 19, 23, 29, 31, 37, 41, 43, 47, 49, 53, 59])

    def test_wrong_points(self):
        for teeth in [3, 12, 60]:
            self.assertEqual(ask(begin(teeth), make(0), make(teeth + 1), make(99))[1:], [[-1], [-1], [-1]])

    def test_wheels_in_the_box_make_no_difference(self):
        calls = [make(points) for points in range(14)]
        without = ask(begin(12), *calls)[1:]
        self.assertEqual(ask(begin(12), wheel(4), *calls)[2:], without)
        self.assertEqual(ask(begin(12), *[wheel(step) for step in [6, 6, 5, 4, 3, 1]], *calls)[7:], without)

    def test_leaves_the_wheels_as_they_are(self):
        self.assertEqual(ask(begin(12), make(3), wheel(5), make(12), wheel(4))[2::2], [[0], [1]])

    def test_every_ring_as_its_wheels_roll(self):
        for teeth in range(3, 61):
            fitting = {}
            for step in range(1, teeth):
                fitting.setdefault(len(walked(teeth, step, 0)), []).append(step)
            for points in range(1, teeth + 1):
                steps = fitting.get(points, [])
                self.assertEqual(ask_last(begin(teeth), make(points)), [len(steps)] + steps)


if __name__ == "__main__":
    unittest.main()
