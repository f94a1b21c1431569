"""Promise 6: kn_common."""

import unittest

from helper import CLEAR, WRONG_PERSONS, Tree, ask_apart, ask_rows, common, diamonds, parent, partner, persons


class Common(unittest.TestCase):
    def setUp(self):
        self.tree = Tree()

    def both(self, a, b):
        """The answers for a and b, and for b and a."""
        return self.tree.ask(common(a, b), common(b, a))

    def test_oneself(self):
        a = self.tree.born()
        low = self.tree.born(a)
        self.assertEqual(self.tree.common(a, a), [1, 0, 0, a])
        self.assertEqual(self.tree.common(low, low), [1, 0, 0, low])

    def test_one_above_the_other(self):
        top = self.tree.born()
        for steps in (1, 2, 3, 28):
            low = self.tree.below(top, steps)
            self.assertEqual(self.both(low, top), [[1, steps, 0, top], [1, 0, steps, top]], steps)

    def test_nobody_in_common(self):
        a = self.tree.born(*self.tree.couple())
        b = self.tree.born(*self.tree.couple())
        self.assertEqual(self.both(a, b), [[0], [0]])

    def test_a_child_in_common_is_nobody(self):
        a, b = self.tree.couple()
        self.tree.born(a, b)
        self.tree.tell(partner(a, b))
        self.assertEqual(self.both(a, b), [[0], [0]])

    def test_siblings_by_two_parents_and_by_one(self):
        top = self.tree.couple()
        a, b = self.tree.born(*top), self.tree.born(*top)
        half = self.tree.born(top[1], self.tree.born())
        self.assertEqual(self.both(a, b), [[2, 1, 1, top[0]]] * 2)
        self.assertEqual(self.both(a, half), [[1, 1, 1, top[1]]] * 2)

    def test_unlike_steps(self):
        top = self.tree.couple()
        a = self.tree.below(self.tree.born(*top), 3)
        b = self.tree.born(*top)
        self.assertEqual(self.both(a, b), [[2, 4, 1, top[0]], [2, 1, 4, top[0]]])

    def test_28_steps_on_either_side(self):
        top = self.tree.born()
        a, b = self.tree.below(top, 28), self.tree.below(top, 28)
        self.assertEqual(self.both(a, b), [[1, 28, 28, top]] * 2)

    def test_the_first_is_the_lowest_number_however_it_was_told(self):
        for order in ((2, 3), (3, 2)):
            for other in ((2, 3), (3, 2)):
                rows = persons(4) + [parent(0, one) for one in order] + [parent(1, one) for one in other]
                self.assertEqual(ask_rows(rows + [common(0, 1), common(1, 0)])[-2:], [[2, 1, 1, 2]] * 2)

    def test_four_nearest(self):
        # Cousins twice over: two siblings have children with two siblings.
        one, other = self.tree.couple(), self.tree.couple()
        a = self.tree.born(self.tree.born(*one), self.tree.born(*other))
        b = self.tree.born(self.tree.born(*other), self.tree.born(*one))
        self.assertEqual(self.both(a, b), [[4, 2, 2, one[0]]] * 2)

    def test_fewest_steps_together_before_fewest_from_a(self):
        # By far 1 and 4 steps, by near 2 and 2.
        far, near = self.tree.born(), self.tree.born()
        a = self.tree.born(far, self.tree.born(near))
        b = self.tree.born(self.tree.below(far, 3), self.tree.born(near))
        self.assertEqual(self.both(a, b), [[1, 2, 2, near]] * 2)

    def test_fewest_from_a_where_as_many_together(self):
        # By x 1 and 3 steps, by y 2 and 2, by z 3 and 1: the lower number is not the nearer.
        z, y, x = self.tree.born(), self.tree.born(), self.tree.born()
        a = self.tree.born(x, self.tree.born(y, self.tree.born(z)))
        b = self.tree.born(z, self.tree.born(y, self.tree.born(x)))
        self.assertEqual(self.both(a, b), [[1, 1, 3, x], [1, 1, 3, z]])

    def test_others_with_as_many_together_are_not_counted(self):
        # x, x2 by 1 and 2 steps, y by 2 and 1.
        y, x, x2 = self.tree.born(), self.tree.born(), self.tree.born()
        aunt = self.tree.born(x, x2)
        child = self.tree.born(x, x2)
        self.tree.tell(parent(x2, y))
        b = self.tree.born(aunt, y)
        self.assertEqual(self.both(child, b), [[2, 1, 2, x], [1, 1, 2, y]])

    def test_one_met_by_lines_of_different_lengths_counts_once(self):
        top = self.tree.born()
        a = self.tree.born(top, self.tree.born(top))
        b = self.tree.born(top, self.tree.born(top))
        self.assertEqual(self.both(a, b), [[1, 1, 1, top]] * 2)

    def test_one_of_them_above_the_other_by_two_lengths(self):
        top = self.tree.born()
        low = self.tree.born(self.tree.below(top, 2), self.tree.below(top, 1))
        self.assertEqual(self.both(low, top), [[1, 2, 0, top], [1, 0, 2, top]])

    def test_oneself_comes_before_parents_in_common(self):
        # The child of parent and child: they have the parent's parents in common, too.
        top = self.tree.born(*self.tree.couple())
        low = self.tree.born(top)
        lowest = self.tree.born(top, low)
        self.assertEqual(self.both(lowest, top), [[1, 1, 0, top], [1, 0, 1, top]])
        self.assertEqual(self.both(lowest, low), [[1, 1, 0, low], [1, 0, 1, low]])

    def test_partners_have_nothing_in_common_by_that(self):
        a, b = self.tree.couple()
        self.tree.tell(partner(a, b))
        self.assertEqual(self.both(a, b), [[0], [0]])


class Refused(unittest.TestCase):
    def test_a_person_who_is_not_there(self):
        for wrong in WRONG_PERSONS + (2, 3, 1024):
            asked = [common(0, wrong), common(wrong, 0), common(wrong, wrong)]
            self.assertEqual(ask_rows(persons(2) + asked)[-3:], [[-1]] * 3, wrong)
        self.assertEqual(ask_rows([common(0, 0)]), [[-1]])

    def test_the_first_and_the_last_are_there(self):
        self.assertEqual(ask_rows(persons(2) + [common(0, 1), common(1, 1)])[-2:], [[0], [1, 0, 0, 1]])

    def test_nothing_is_left_by_what_was_cleared(self):
        rows = persons(2) + [parent(0, 1), CLEAR, common(0, 1)] + persons(2) + [common(0, 1)]
        self.assertEqual(ask_rows(rows)[-4:], [[-1], [0], [1], [0]])


class ManyLines(unittest.TestCase):
    def test_two_to_the_28_lines_are_answered_soon(self):
        told = ask_apart(diamonds(28) + [common(0, 1), common(0, 0), common(0, 57), common(56, 1), common(56, 57)])
        self.assertEqual(told[-5:], [[2, 1, 1, 2], [1, 0, 0, 0], [1, 28, 0, 57], [1, 0, 28, 56], [0]])


if __name__ == "__main__":
    unittest.main()
