"""Promise 7: kn_alike."""

import unittest
from fractions import Fraction

from helper import CLEAR, WRONG_PERSONS, Tree, alike, ask_apart, ask_rows, diamonds, parent, partner, persons

ALL = 2 ** 60


class Alike(unittest.TestCase):
    def setUp(self):
        self.tree = Tree()

    def assert_part(self, a, b, part):
        """a and b, and b and a, have the same by that part of 1."""
        wanted = part * ALL
        self.assertEqual(wanted, int(wanted))
        self.assertEqual(self.tree.ask(alike(a, b), alike(b, a)), [[0, int(wanted)]] * 2)

    def test_oneself_with_no_parent_one_and_two(self):
        self.assert_part(self.tree.born(), 0, Fraction(1, 2))
        one = self.tree.born(0)
        self.assert_part(one, one, Fraction(1, 2))
        two = self.tree.born(*self.tree.couple())
        self.assert_part(two, two, Fraction(1, 2))

    def test_oneself_as_numbers(self):
        self.assertEqual(ask_rows(persons(1) + [alike(0, 0)])[-1], [0, 576460752303423488])

    def test_oneself_where_the_parents_have_somebody_in_common(self):
        top = self.tree.couple()
        one, other = self.tree.born(*top), self.tree.born(*top)
        of_siblings = self.tree.born(one, other)
        self.assert_part(of_siblings, of_siblings, Fraction(5, 8))
        of_parent_and_child = self.tree.born(top[0], one)
        self.assert_part(of_parent_and_child, of_parent_and_child, Fraction(5, 8))

    def test_oneself_with_one_parent_told_whose_parents_have_somebody_in_common(self):
        top = self.tree.couple()
        middle = self.tree.born(self.tree.born(*top), self.tree.born(*top))
        low = self.tree.born(middle)
        self.assert_part(low, low, Fraction(1, 2))
        self.assert_part(low, middle, Fraction(5, 16))

    def test_nobody_in_common(self):
        a, b = self.tree.couple()
        self.tree.tell(partner(a, b))
        self.tree.born(a, b)
        self.assert_part(a, b, Fraction(0))
        self.assertEqual(self.tree.ask(alike(a, b)), [[0, 0]])

    def test_one_above_the_other(self):
        top = self.tree.born()
        for steps in (1, 2, 3, 28):
            self.assert_part(top, self.tree.below(top, steps), Fraction(1, 2 ** (steps + 1)))

    def test_one_above_the_other_by_two_lines(self):
        top = self.tree.born()
        self.assert_part(top, self.tree.born(self.tree.born(top), self.tree.born(top)), Fraction(1, 4))
        self.assert_part(top, self.tree.born(top, self.tree.born(top)), Fraction(3, 8))

    def test_one_above_the_other_with_more_in_common(self):
        # The child's other parent is its parent's parent.
        top = self.tree.born()
        middle = self.tree.born(top)
        low = self.tree.born(middle, top)
        self.assert_part(low, middle, Fraction(3, 8))
        self.assert_part(low, low, Fraction(5, 8))

    def test_siblings_and_half_siblings(self):
        top = self.tree.couple()
        a, b = self.tree.born(*top), self.tree.born(*top)
        half = self.tree.born(top[0], self.tree.born())
        one_told = self.tree.born(top[0])
        self.assert_part(a, b, Fraction(1, 4))
        self.assert_part(a, half, Fraction(1, 8))
        self.assert_part(a, one_told, Fraction(1, 8))
        self.assert_part(half, one_told, Fraction(1, 8))

    def test_aunts_and_cousins(self):
        top = self.tree.couple()
        one, other = self.tree.born(*top), self.tree.born(*top)
        a = self.tree.born(one, self.tree.born())
        b = self.tree.born(other)
        self.assert_part(a, other, Fraction(1, 8))
        self.assert_part(a, b, Fraction(1, 16))
        self.assert_part(self.tree.born(a), b, Fraction(1, 32))
        self.assert_part(self.tree.born(a), self.tree.born(b), Fraction(1, 64))

    def test_cousins_twice_over(self):
        one, other = self.tree.couple(), self.tree.couple()
        a = self.tree.born(self.tree.born(*one), self.tree.born(*other))
        b = self.tree.born(self.tree.born(*other), self.tree.born(*one))
        self.assert_part(a, b, Fraction(1, 8))

    def test_siblings_whose_parents_are_siblings(self):
        top = self.tree.couple()
        middle = (self.tree.born(*top), self.tree.born(*top))
        self.assert_part(self.tree.born(*middle), self.tree.born(*middle), Fraction(3, 8))

    def test_what_many_steps_leave(self):
        top = self.tree.born()
        a, b = self.tree.below(top, 28), self.tree.below(top, 28)
        self.assertEqual(self.tree.alike(a, b), 8)
        self.assertEqual(self.tree.alike(b, a), 8)
        self.assertEqual(self.tree.alike(a, top), 2 ** 31)

    def test_what_many_steps_leave_below_two(self):
        top = self.tree.couple()
        a, b = self.tree.born(*top), self.tree.born(*top)
        self.assertEqual(self.tree.alike(self.tree.below(a, 27), self.tree.below(b, 27)), 16)

    def test_numbers_told_in_any_order(self):
        # The same four persons under each order of their numbers.
        for mother, one, other, low in ((0, 1, 2, 3), (3, 2, 1, 0), (1, 3, 0, 2), (2, 0, 3, 1)):
            rows = persons(4) + [parent(low, one), parent(low, other), parent(other, mother), parent(one, mother)]
            asked = [alike(one, other), alike(low, low), alike(low, mother), alike(one, low)]
            parts = [Fraction(1, 8), Fraction(9, 16), Fraction(1, 4), Fraction(5, 16)]
            self.assertEqual(ask_rows(rows + asked)[-4:], [[0, int(part * ALL)] for part in parts])

    def test_partners_have_nothing_by_that(self):
        a, b = self.tree.couple()
        self.tree.tell(partner(a, b))
        low = self.tree.born(a)
        self.assert_part(low, b, Fraction(0))


class TheMost(unittest.TestCase):
    def test_pairs_of_siblings_28_steps_high(self):
        oneself, other = Fraction(1, 2), Fraction(0)
        for _ in range(28):
            oneself, other = (1 + other) / 2, (oneself + other) / 2
        told = ask_apart(diamonds(28) + [alike(0, 0), alike(0, 1), alike(1, 0), alike(1, 1)])[-4:]
        wanted = [[0, int(oneself * ALL)], [0, int(other * ALL)]]
        self.assertEqual(told, wanted + wanted[::-1])
        self.assertEqual((int(oneself * ALL), int(other * ALL)), (oneself * ALL, other * ALL))
        self.assertTrue(ALL * 99 // 100 < told[1][1] < told[0][1] < ALL)

    def test_many_lines_between_the_ends(self):
        told = ask_apart(diamonds(28) + [alike(0, 56), alike(57, 1), alike(56, 57), alike(2, 1)])[-4:]
        self.assertEqual(told[:3], [[0, ALL // 4], [0, ALL // 4], [0, 0]])

    def test_as_many_persons_and_questions_as_one_list_holds(self):
        # 130 persons in the lines of one, and 130 questions about them.
        rows = persons(130)
        for child in range(69):
            rows += [parent(child, place) for place in (2 * child + 1, 2 * child + 2) if place < 130]
        rows += [alike(0, k) for k in range(130)]
        told = ask_apart(rows)[-130:]
        steps = [(k + 1).bit_length() - 1 for k in range(130)]
        self.assertEqual(told, [[0, ALL // 2 ** (count + 1)] for count in steps])


class Refused(unittest.TestCase):
    def test_a_person_who_is_not_there(self):
        for wrong in WRONG_PERSONS + (2, 3, 1024):
            asked = [alike(0, wrong), alike(wrong, 0), alike(wrong, wrong)]
            self.assertEqual(ask_rows(persons(2) + asked)[-3:], [[-1]] * 3, wrong)
        self.assertEqual(ask_rows([alike(0, 0)]), [[-1]])

    def test_the_first_and_the_last_are_there(self):
        self.assertEqual(ask_rows(persons(2) + [alike(0, 1), alike(1, 1)])[-2:], [[0, 0], [0, ALL // 2]])

    def test_nothing_is_left_by_what_was_cleared(self):
        rows = persons(2) + [parent(0, 1), CLEAR, alike(0, 1)] + persons(2) + [alike(0, 1)]
        self.assertEqual(ask_rows(rows)[-4:], [[-1], [0], [1], [0, 0]])


if __name__ == "__main__":
    unittest.main()
