"""Promise 4: kn_partner and kn_part."""

import unittest

from helper import WRONG_PERSONS, ask, last, parent, part, partner, person, persons
from kinwordsdesk.family import Family


class Partner(unittest.TestCase):
    def test_they_are_then_they_were(self):
        self.assertEqual(last(persons(2) + [partner(0, 1), partner(0, 1)], 2), [1, 0])

    def test_told_the_other_way_round(self):
        self.assertEqual(last(persons(2) + [partner(0, 1), partner(1, 0)], 2), [1, 0])
        self.assertEqual(last(persons(2) + [partner(1, 0), partner(0, 1)], 2), [1, 0])

    def test_one_may_have_many(self):
        told = persons(100) + [partner(k % 2 * k, (1 - k % 2) * k) for k in range(1, 100)]
        self.assertEqual(last(told, 99), [1] * 99)

    def test_partners_of_partners_are_none(self):
        self.assertEqual(last(persons(3) + [partner(0, 1), partner(1, 2), partner(0, 2)]), [1])

    def test_sex_and_parents_do_not_matter(self):
        for sex in (0, 1, 2):
            told = [person(sex), person(sex), parent(0, 1), partner(0, 1), parent(0, 1)]
            self.assertEqual(last(told, 3), [1, 1, 0], sex)

    def test_one_person_is_no_pair(self):
        self.assertEqual(last(persons(2) + [partner(0, 0), partner(1, 1)], 2), [-1, -1])

    def test_a_person_who_is_not_there(self):
        for wrong in WRONG_PERSONS + (2, 3, 1024):
            told = persons(2) + [partner(0, wrong), partner(wrong, 0), partner(wrong, wrong)]
            self.assertEqual(last(told, 3), [-1, -1, -1], wrong)
        self.assertEqual(ask([partner(0, 1)]), [-1])

    def test_a_refusal_changes_nothing(self):
        told = persons(2) + [partner(0, 2), partner(1, 1), partner(1, -1), person()]
        told += [part(0, 2), part(1, 1), part(1, 0), partner(0, 2)]
        self.assertEqual(last(told, 4), [0, 0, 0, 1])


class Part(unittest.TestCase):
    def test_no_more_then_they_were_not(self):
        self.assertEqual(last(persons(2) + [partner(0, 1), part(0, 1), part(0, 1)], 3), [1, 1, 0])

    def test_told_the_other_way_round(self):
        told = persons(2) + [partner(0, 1), part(1, 0), part(0, 1), partner(1, 0), part(0, 1), part(1, 0)]
        self.assertEqual(last(told, 6), [1, 1, 0, 1, 1, 0])

    def test_partners_again(self):
        told = persons(2) + [partner(0, 1), part(0, 1), partner(1, 0), partner(0, 1)]
        self.assertEqual(last(told, 4), [1, 1, 1, 0])

    def test_such_who_were_not_partners(self):
        told = persons(3) + [part(0, 1), partner(0, 1), part(0, 2), part(2, 1), part(0, 1)]
        self.assertEqual(last(told, 5), [0, 1, 0, 0, 1])

    def test_other_pairs_stay(self):
        told = persons(3) + [partner(0, 1), partner(0, 2), part(0, 1), partner(2, 0), part(0, 2)]
        self.assertEqual(last(told, 3), [1, 0, 1])

    def test_one_person_was_not_a_pair(self):
        # Only kn_partner refuses one person as both; here there are such, and they weren't partners.
        self.assertEqual(last(persons(2) + [partner(0, 1), part(0, 0), part(1, 1)], 2), [0, 0])

    def test_a_person_who_is_not_there(self):
        for wrong in WRONG_PERSONS + (2, 3, 1024):
            told = persons(2) + [partner(0, 1), part(0, wrong), part(wrong, 1), part(wrong, wrong), partner(0, 1)]
            self.assertEqual(last(told, 4), [-1, -1, -1, 0], wrong)
        self.assertEqual(ask([part(0, 0)]), [-1])

    def test_parents_stay(self):
        told = persons(2) + [parent(0, 1), partner(0, 1), part(0, 1), parent(0, 1)]
        self.assertEqual(last(told, 2), [1, 0])


class ManyPairs(unittest.TestCase):
    """One list of 400 calls doesn't come to 4096 pairs, so the object itself is asked."""

    def setUp(self):
        self.family = Family()
        for _ in range(130):
            self.family.add_person(0)
        self.told = [self.family.add_partners(k // 64, 64 + k % 64) for k in range(4096)]

    def test_4096_pairs_and_no_more(self):
        self.assertEqual(self.told, [1] * 4096)
        self.assertEqual(self.family.add_partners(128, 129), -2)
        self.assertEqual(self.family.part_partners(128, 129), 0)

    def test_what_comes_before_it(self):
        self.assertEqual(self.family.add_partners(127, 63), 0)
        self.assertEqual(self.family.add_partners(128, 128), -1)
        self.assertEqual(self.family.add_partners(128, 130), -1)
        self.assertEqual(self.family.add_partners(-1, 0), -1)

    def test_a_part_makes_room(self):
        self.assertEqual(self.family.part_partners(64, 0), 1)
        self.assertEqual(self.family.add_partners(129, 128), 1)
        self.assertEqual(self.family.add_partners(0, 64), -2)


if __name__ == "__main__":
    unittest.main()
