"""What no list of calls can show: by c and d, marks by an order never let these differ."""

import unittest

from wayposts.marking import all_right, told_through, without_mark


class Through(unittest.TestCase):
    def test_the_first_of_our_marks_not_of_theirs(self):
        ours, theirs = [(5, 1), (7, 2)], [(7, 1), (5, 2)]
        self.assertEqual([told_through(ours, theirs), told_through(theirs, ours)], [5, 7])

    def test_not_the_first_that_tells_farther(self):
        self.assertEqual(told_through([(5, 9), (7, 2), (3, 1)], [(3, 2), (5, 1), (7, 1)]), 7)

    def test_nothing(self):
        for ours, theirs in (([], []), ([(1, 0)], []), ([(1, 0)], [(2, 0)])):
            with self.subTest(ours=ours, theirs=theirs):
                self.assertEqual(told_through(ours, theirs), -1)


class Without(unittest.TestCase):
    marks = [[(0, 0)], [(0, 5), (1, 0)], [(0, 9), (1, 4), (2, 0)]]

    def test_just_that_one_is_left_out(self):
        self.assertEqual(without_mark(self.marks, 2, 0), [[(0, 0)], [(0, 5), (1, 0)], [(1, 4), (2, 0)]])
        self.assertEqual(without_mark(self.marks, 2, 2), [[(0, 0)], [(0, 5), (1, 0)], [(0, 9), (1, 4)]])
        self.assertEqual(without_mark(self.marks, 0, 0), [[], [(0, 5), (1, 0)], [(0, 9), (1, 4), (2, 0)]])

    def test_the_marks_stay(self):
        marks = [list(had) for had in self.marks]
        without_mark(marks, 1, 1)
        self.assertEqual(marks, self.marks)

    def test_one_too_many_can_be_left_out(self):
        table = [[0, 5], [5, 0]]
        marks = [[(1, 5), (0, 0)], [(0, 5), (1, 0)]]
        self.assertTrue(all_right(table, marks))
        self.assertTrue(all_right(table, without_mark(marks, 0, 0)))
        self.assertFalse(all_right(table, without_mark(marks, 0, 1)))


if __name__ == "__main__":
    unittest.main()
