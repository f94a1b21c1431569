"""Promise 3: kn_parent."""

import unittest

from helper import WRONG_PERSONS, ask, ask_apart, chain, diamonds, last, parent, person, persons


class Told(unittest.TestCase):
    def test_one_two_and_no_third(self):
        told = persons(4) + [parent(0, 1), parent(0, 2), parent(0, 3)]
        self.assertEqual(last(told, 3), [1, 1, -2])

    def test_it_was_a_parent_already(self):
        told = persons(3) + [parent(0, 1), parent(0, 1), parent(0, 2), parent(0, 2), parent(0, 1)]
        self.assertEqual(last(told, 5), [1, 0, 1, 0, 0])

    def test_telling_again_fills_no_place(self):
        told = persons(4) + [parent(0, 1), parent(0, 1), parent(0, 2), parent(0, 3)]
        self.assertEqual(last(told, 4), [1, 0, 1, -2])

    def test_sex_does_not_matter(self):
        for sex in (0, 1, 2):
            told = [person(sex) for _ in range(3)] + [parent(0, 1), parent(0, 2)]
            self.assertEqual(last(told, 2), [1, 1], sex)

    def test_one_parent_of_many_children(self):
        told = persons(100) + [parent(k, 0) for k in range(1, 100)]
        self.assertEqual(last(told, 99), [1] * 99)

    def test_two_may_be_joined_by_lines_of_unlike_length(self):
        told = persons(3) + [parent(0, 1), parent(1, 2), parent(0, 2)]
        self.assertEqual(last(told, 3), [1, 1, 1])


class NotThere(unittest.TestCase):
    def test_a_person_who_is_not_there(self):
        for wrong in WRONG_PERSONS + (2, 3, 1024):
            told = persons(2) + [parent(0, wrong), parent(wrong, 0), parent(wrong, wrong)]
            self.assertEqual(last(told, 3), [-1, -1, -1], wrong)

    def test_nobody_at_all(self):
        self.assertEqual(ask([parent(0, 0), parent(0, 1)]), [-1, -1])

    def test_the_last_is_there(self):
        self.assertEqual(last(persons(5) + [parent(4, 0), parent(3, 4)], 2), [1, 1])

    def test_comes_before_a_third_parent(self):
        told = persons(3) + [parent(0, 1), parent(0, 2), parent(0, 3), parent(0, -1)]
        self.assertEqual(last(told, 2), [-1, -1])


class Rounds(unittest.TestCase):
    def test_oneself(self):
        self.assertEqual(last(persons(2) + [parent(0, 0), parent(1, 1)], 2), [-3, -3])

    def test_a_child_above_its_parent_by_one_step(self):
        self.assertEqual(last(persons(2) + [parent(0, 1), parent(1, 0)]), [-3])

    def test_a_child_above_its_parent_by_many_steps(self):
        for count in range(3, 30):
            told = persons(count) + chain(0, count) + [parent(count - 1, 0)]
            self.assertEqual(last(told), [-3], count)

    def test_a_child_above_by_the_second_parent(self):
        told = persons(4) + [parent(0, 1), parent(0, 2), parent(2, 3), parent(3, 0)]
        self.assertEqual(last(told), [-3])

    def test_beside_one_another_is_no_round(self):
        told = persons(4) + [parent(0, 2), parent(1, 2), parent(0, 1), parent(3, 0)]
        self.assertEqual(last(told, 2), [1, 1])

    def test_two_told_comes_first(self):
        told = persons(4) + [parent(0, 1), parent(0, 2), parent(3, 0)]
        told += [parent(0, 0), parent(0, 3)]
        self.assertEqual(last(told, 2), [-2, -2])

    def test_comes_before_too_long_a_line(self):
        told = persons(30) + chain(0, 29) + [parent(28, 0), parent(28, 29)]
        self.assertEqual(last(told, 2), [-3, -4])
        told = persons(29) + chain(0, 29) + [parent(14, 14), parent(14, 13)]
        self.assertEqual(last(told, 2), [-3, -3])


class Depth(unittest.TestCase):
    def test_told_from_the_bottom_up(self):
        told = persons(30) + chain(0, 30)
        self.assertEqual(last(told, 29), [1] * 28 + [-4])

    def test_told_from_the_top_down(self):
        told = persons(30) + list(reversed(chain(0, 30)))
        self.assertEqual(last(told, 29), [1] * 28 + [-4])

    def test_joined_in_the_middle(self):
        for count, answer in ((29, 1), (30, -4)):
            for lower in range(1, count):
                told = persons(count) + chain(0, lower) + chain(lower, count - lower)
                self.assertEqual(last(told + [parent(lower - 1, lower)]), [answer], (count, lower))

    def test_the_longest_line_counts_below_and_above(self):
        # A short line is told first on either side, then a long one: 14 steps below 0 and 13 above 1.
        told = persons(40) + [parent(2, 0), parent(1, 3)]
        told += chain(4, 14) + [parent(17, 0)] + chain(18, 13) + [parent(1, 18)]
        self.assertEqual(last(told + [parent(0, 1)]), [1])
        self.assertEqual(last(told + [parent(4, 31), parent(0, 1)], 2), [1, 1])
        self.assertEqual(last(told + [parent(32, 4), parent(0, 1)], 2), [1, -4])
        self.assertEqual(last(told + [parent(30, 33), parent(0, 1)], 2), [1, -4])

    def test_a_new_line_beside_a_short_one(self):
        # 29 comes to 28 by one step and by 28: the longer line counts for 30.
        told = persons(31) + chain(0, 29) + [parent(29, 0), parent(29, 1), parent(29, 28), parent(30, 29)]
        self.assertEqual(last(told, 4), [-4, 1, 1, -4])

    def test_two_told_comes_first(self):
        told = persons(33) + chain(0, 29) + [parent(29, 30), parent(29, 31), parent(29, 0)]
        self.assertEqual(last(told, 3), [1, 1, -2])

    def test_it_was_a_parent_comes_first(self):
        told = persons(29) + chain(0, 29) + [parent(0, 1), parent(27, 28)]
        self.assertEqual(last(told, 2), [0, 0])


class NothingChanges(unittest.TestCase):
    def test_after_a_third_parent(self):
        told = persons(4) + [parent(0, 1), parent(0, 2), parent(0, 3), parent(0, 3), parent(3, 0)]
        self.assertEqual(last(told, 3), [-2, -2, 1])

    def test_after_oneself(self):
        told = persons(4) + [parent(0, 0), parent(0, 0), parent(0, 1), parent(0, 2), parent(0, 3)]
        self.assertEqual(last(told, 5), [-3, -3, 1, 1, -2])

    def test_after_a_round(self):
        told = persons(4) + [parent(0, 1), parent(1, 0), parent(1, 0), parent(1, 2), parent(1, 3), parent(1, 2)]
        self.assertEqual(last(told, 5), [-3, -3, 1, 1, 0])

    def test_after_too_long_a_line(self):
        told = persons(32) + chain(0, 29) + [parent(28, 29), parent(28, 29)]
        told += [parent(29, 28), parent(29, 27), parent(30, 29), parent(28, 30)]
        self.assertEqual(last(told, 6), [-4, -4, 1, 1, 1, -3])

    def test_after_somebody_who_is_not_there(self):
        told = persons(2) + [parent(0, 2), parent(0, -1), person(), person(), parent(0, 2), parent(0, 3)]
        self.assertEqual(last(told, 2), [1, 1])


class ManyLines(unittest.TestCase):
    def test_two_to_the_28_lines_are_answered_soon(self):
        calls = diamonds(28) + persons(2)
        steps = len(calls) - 60
        calls += [parent(56, 0), parent(57, 1), parent(56, 58), parent(58, 0), parent(58, 2), parent(59, 58)]
        told = [row[0] for row in ask_apart(calls)]
        self.assertEqual(told, list(range(58)) + [1] * steps + [58, 59] + [-3, -3, -4, -4, 1, -4])


if __name__ == "__main__":
    unittest.main()
