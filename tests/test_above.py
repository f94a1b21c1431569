"""Promise 5: kn_above."""

import unittest

from helper import (CLEAR, HIGHEST, LOWEST, WRONG_PERSONS, Tree, above, ask, ask_apart, chain, diamonds, last, parent,
                    persons)


def counts(rows, a):
    """What kn_above answers for a and each k."""
    return last(rows + [above(a, k) for k in range(29)], 29)


class Above(unittest.TestCase):
    def test_no_parents(self):
        self.assertEqual(counts(persons(1), 0), [1] + [0] * 28)

    def test_one_and_two_parents(self):
        rows = persons(3) + [parent(0, 1)]
        self.assertEqual(counts(rows, 0), [1, 1] + [0] * 27)
        self.assertEqual(counts(rows + [parent(0, 2)], 0), [1, 2] + [0] * 27)

    def test_children_and_siblings_do_not_count(self):
        rows = persons(4) + [parent(0, 1), parent(2, 1), parent(3, 0)]
        self.assertEqual([counts(rows, k)[:3] for k in range(4)], [[1, 1, 0], [1, 0, 0], [1, 1, 0], [1, 1, 1]])

    def test_four_grandparents(self):
        tree = Tree()
        one = tree.born(*tree.couple())
        other = tree.born(*tree.couple())
        low = tree.born(one, other)
        self.assertEqual(counts(tree.rows, low)[:4], [1, 2, 4, 0])

    def test_a_line_of_28_steps(self):
        rows = persons(29) + chain(0, 29)
        self.assertEqual(counts(rows, 0), [1] * 29)
        self.assertEqual(counts(rows, 1), [1] * 28 + [0])

    def test_one_met_by_several_lines_of_k_steps_counts_once(self):
        tree = Tree()
        top = tree.born()
        low = tree.born(tree.born(top), tree.born(top))
        self.assertEqual(counts(tree.rows, low)[:4], [1, 2, 1, 0])

    def test_one_met_by_lines_of_different_lengths_counts_at_each(self):
        # 0 has 3 as a parent, and as one above by 2 and by 3 steps.
        rows = persons(4) + [parent(0, 1), parent(0, 3), parent(1, 2), parent(1, 3), parent(2, 3)]
        self.assertEqual(counts(rows, 0)[:5], [1, 2, 2, 1, 0])

    def test_partners_do_not_count(self):
        self.assertEqual(counts(persons(2) + [(4, 0, 1)], 0)[:2], [1, 0])


class Refused(unittest.TestCase):
    def test_a_person_who_is_not_there(self):
        for wrong in WRONG_PERSONS + (2, 3, 1024):
            for k in (0, 1, 28):
                self.assertEqual(last(persons(2) + [above(wrong, k)]), [-1], (wrong, k))
        self.assertEqual(ask([above(0, 0)]), [-1])

    def test_the_first_and_the_last_are_there(self):
        self.assertEqual(last(persons(3) + [above(0, 0), above(2, 0)], 2), [1, 1])

    def test_the_ends_of_k(self):
        rows = persons(30) + chain(0, 29)
        asked = [above(0, k) for k in (LOWEST, -2, -1, 0, 1, 27, 28, 29, 30, HIGHEST)]
        self.assertEqual(last(rows + asked, 10), [-1, -1, -1, 1, 1, 1, 1, -1, -1, -1])

    def test_both_wrong(self):
        asked = [above(wrong, k) for wrong in (-1, 1, LOWEST, HIGHEST) for k in (-1, 29, LOWEST, HIGHEST)]
        self.assertEqual(last(persons(1) + asked, 16), [-1] * 16)

    def test_nothing_is_left_by_what_was_cleared(self):
        rows = persons(3) + [parent(0, 1), parent(0, 2), CLEAR, above(0, 0)] + persons(1) + [above(0, 0), above(0, 1)]
        self.assertEqual(last(rows, 4), [-1, 0, 1, 0])


class ManyLines(unittest.TestCase):
    def test_two_to_the_28_lines_are_answered_soon(self):
        told = ask_apart(diamonds(28) + [above(0, k) for k in range(29)] + [above(2, 28), above(0, 29)])
        self.assertEqual(told[-31:], [[1]] + [[2]] * 28 + [[0], [-1]])

    def test_lines_of_all_lengths_are_answered_soon(self):
        # Each has the two that come next as parents: by k steps one is k to 2 * k places on.
        rows = persons(29) + [parent(k, k + far) for k in range(28) for far in (1, 2) if k + far < 29]
        told = ask_apart(rows + [above(0, k) for k in range(29)])
        self.assertEqual(told[-29:], [[min(2 * k, 28) - k + 1] for k in range(29)])


if __name__ == "__main__":
    unittest.main()
