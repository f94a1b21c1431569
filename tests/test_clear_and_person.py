"""Promises 1 and 2: kn_clear and kn_person."""

import unittest

from helper import CLEAR, HIGHEST, LOWEST, ask, last, parent, part, partner, person, persons
from kinwordsdesk.family import Family


class Clear(unittest.TestCase):
    def test_answers_0_whenever_it_comes(self):
        self.assertEqual(ask([CLEAR, person(), CLEAR, CLEAR]), [0, 0, 0, 0])

    def test_leaves_nobody(self):
        told = persons(3) + [CLEAR, parent(0, 1), partner(0, 1), part(0, 1)]
        self.assertEqual(last(told, 3), [-1, -1, -1])

    def test_numbers_begin_at_0_again(self):
        self.assertEqual(ask(persons(3) + [CLEAR] + persons(2)), [0, 1, 2, 0, 0, 1])

    def test_leaves_no_partners(self):
        told = persons(2) + [partner(0, 1), CLEAR] + persons(2) + [part(0, 1), partner(0, 1)]
        self.assertEqual(last(told, 2), [0, 1])

    def test_leaves_no_parents(self):
        told = persons(3) + [parent(0, 1), parent(0, 2), CLEAR] + persons(3)
        told += [parent(1, 0), parent(0, 2), parent(0, 1), parent(1, 2)]
        self.assertEqual(last(told, 4), [1, 1, -3, 1])

    def test_leaves_no_lines(self):
        line = persons(29) + [parent(k, k + 1) for k in range(28)]
        told = line + [CLEAR] + persons(30) + [parent(28, 29), parent(29, 0)]
        self.assertEqual(last(told, 2), [1, 1])

    def test_makes_room_for_persons_and_pairs(self):
        family = Family()
        for _ in range(1024):
            family.add_person(0)
        for k in range(4096):
            family.add_partners(k // 64, 64 + k % 64)
        self.assertEqual(family.forget_all(), 0)
        self.assertEqual([family.add_person(0), family.add_person(0)], [0, 1])
        self.assertEqual(family.add_partners(0, 1), 1)


class Person(unittest.TestCase):
    def test_numbers_from_0_in_the_order_told(self):
        self.assertEqual(ask([person(0), person(1), person(2), person(0)]), [0, 1, 2, 3])

    def test_the_ends_of_sex(self):
        for sex in (-1, 3, LOWEST, HIGHEST):
            self.assertEqual(ask([person(sex)]), [-1], sex)
        for sex in (0, 1, 2):
            self.assertEqual(ask([person(sex)]), [0], sex)

    def test_a_refusal_takes_no_number(self):
        self.assertEqual(ask([person(-1), person(0), person(3), person(2)]), [-1, 0, -1, 1])

    def test_a_refused_person_is_not_there(self):
        self.assertEqual(last([person(1), person(3), partner(0, 1)]), [-1])

    def test_as_many_as_one_list_can_tell(self):
        self.assertEqual(ask(persons(399)), list(range(399)))

    def test_1024_and_no_more(self):
        family = Family()
        self.assertEqual([family.add_person(k % 3) for k in range(1024)], list(range(1024)))
        self.assertEqual([family.add_person(sex) for sex in (0, 1, 2)], [-2, -2, -2])
        self.assertEqual(family.add_parent(1023, 1022), 1)
        self.assertEqual(family.add_parent(1023, 1024), -1)

    def test_a_wrong_sex_comes_before_too_many(self):
        family = Family()
        for _ in range(1024):
            family.add_person(0)
        self.assertEqual([family.add_person(-1), family.add_person(3)], [-1, -1])


if __name__ == "__main__":
    unittest.main()
