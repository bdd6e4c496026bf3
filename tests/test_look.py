import unittest

from asking import (ask, ask_last, begin, common, cover, crossings, figure, look, make, point, same, turn, turns, wheel,
                    when)


class Look(unittest.TestCase):
    def test_no_wheel(self):
        for teeth in [3, 12, 60]:
            self.assertEqual(ask_last(begin(teeth), look()), [teeth, 0])

    def test_one_wheel(self):
        self.assertEqual(ask_last(begin(12), wheel(5), look()), [12, 1, 5])

    def test_six_wheels_in_the_order_they_came(self):
        told = ask_last(begin(60), *[wheel(step) for step in [59, 1, 30, 30, 7, 2]], look())
        self.assertEqual(told, [60, 6, 59, 1, 30, 30, 7, 2])

    def test_after_each_wheel(self):
        told = ask(begin(12), look(), wheel(11), look(), wheel(4), look())
        self.assertEqual(told, [[0], [12, 0], [0], [12, 1, 11], [1], [12, 2, 11, 4]])

    def test_after_a_refused_wheel(self):
        for step in [0, 12, 99]:
            self.assertEqual(ask(begin(12), wheel(5), wheel(step), look())[2:], [[-1], [12, 1, 5]])

    def test_after_a_seventh_wheel(self):
        told = ask(begin(12), *[wheel(step) for step in [1, 2, 3, 4, 5, 6, 7]], look())
        self.assertEqual(told[-2:], [[-5], [12, 6, 1, 2, 3, 4, 5, 6]])

    def test_after_a_refused_begin(self):
        for teeth in [0, 2, 61, 99]:
            self.assertEqual(ask(begin(12), wheel(5), begin(teeth), look())[2:], [[-1], [12, 1, 5]])

    def test_after_a_second_begin(self):
        told = ask(begin(12), wheel(5), begin(20), look(), wheel(19), look())
        self.assertEqual(told[2:], [[0], [20, 0], [0], [20, 1, 19]])

    def test_without_a_box(self):
        self.assertEqual(ask(look()), [[-9]])
        self.assertEqual(ask(look(), begin(2), look(), begin(3), look()), [[-9], [-1], [-9], [0], [3, 0]])

    def test_no_other_call_changes_the_box(self):
        asked = [
            figure(0), point(0, 3, 7), when(0, 1, 2), crossings(1), make(4), common(0, 1, 1, 2), same(0, 1, 1, 2),
            cover(1), turns(0, 1), turn(0, 1, 2, 3), look(),
        ]
        refused = [
            figure(2), point(0, 12, 0), when(1, 0, 1), crossings(9), make(0), make(13), common(0, 0, 2, 0),
            same(0, 12, 1, 0), cover(2), turns(2, 0), turn(0, 1, 0, 100001),
        ]
        for call in asked + refused:
            self.assertEqual(ask_last(begin(12), wheel(5), wheel(8), call, look()), [12, 2, 5, 8], call)


if __name__ == "__main__":
    unittest.main()
