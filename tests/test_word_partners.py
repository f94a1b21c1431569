"""Promise 8: kn_word, of such as have nobody in common; how the word is cut; and what is refused."""

import unittest

from helper import (CLEAR, HIGHEST, LOWEST, WRONG_PERSONS, Tree, ask_apart, ask_rows, parent, part, partner, person,
                    persons, word)


class Partners(unittest.TestCase):
    def test_by_the_sex_of_b(self):
        for sex, wanted in ((1, "wife"), (2, "husband"), (0, "spouse")):
            for other in (0, 1, 2):
                tree = Tree()
                a, b = tree.born(sex=other), tree.born(sex=sex)
                tree.tell(partner(a, b))
                self.assertEqual(tree.word(a, b), wanted)

    def test_both_ways_however_told(self):
        for told in (partner(0, 1), partner(1, 0)):
            tree = Tree()
            a, b = tree.born(sex=1), tree.born(sex=2)
            tree.tell(told)
            self.assertEqual([tree.word(a, b), tree.word(b, a)], ["husband", "wife"])

    def test_blood_comes_first(self):
        tree = Tree()
        top = tree.couple()
        a, b = tree.born(*top, sex=1), tree.born(*top, sex=2)
        tree.tell(partner(a, b))
        self.assertEqual([tree.word(a, b), tree.word(b, a)], ["brother", "sister"])

    def test_no_more(self):
        tree = Tree()
        a, b = tree.born(sex=1), tree.born(sex=2)
        tree.tell(partner(a, b), part(b, a))
        self.assertEqual(tree.word(a, b), "not related")
        tree.tell(partner(b, a))
        self.assertEqual(tree.word(a, b), "husband")

    def test_partner_comes_before_in_law(self):
        # b is a's partner, and the mother of another partner of a's.
        tree = Tree()
        a, b = tree.born(sex=2), tree.born(sex=1)
        low = tree.born(b, sex=1)
        tree.tell(partner(a, low), partner(a, b))
        self.assertEqual([tree.word(a, b), tree.word(b, a)], ["wife", "husband"])


class InLaw(unittest.TestCase):
    def setUp(self):
        self.tree = Tree()

    def test_parents_of_a_partner(self):
        for sex, wanted in ((1, "mother-in-law"), (2, "father-in-law"), (0, "parent-in-law")):
            tree = Tree()
            top = tree.born(sex=sex)
            low = tree.born(top)
            a = tree.born()
            tree.tell(partner(a, low))
            self.assertEqual(tree.word(a, top), wanted)

    def test_by_blood_to_the_partner(self):
        top = self.tree.couple()
        spouse = self.tree.born(*top)
        sister = self.tree.born(*top, sex=1)
        nephew = self.tree.born(sister, sex=2)
        half = self.tree.born(top[0], self.tree.born(), sex=2)
        cousin = self.tree.born(nephew)
        child = self.tree.born(spouse, sex=1)
        a = self.tree.born()
        self.tree.tell(partner(spouse, a))
        words = [self.tree.word(a, one) for one in (sister, nephew, half, cousin, child)]
        self.assertEqual(words, ["sister-in-law", "nephew-in-law", "half-brother-in-law", "grand-sibling's child-in-law",
                                 "daughter-in-law"])

    def test_cousins_of_a_partner(self):
        top = self.tree.couple()
        spouse = self.tree.below(self.tree.born(*top), 1)
        cousin = self.tree.below(self.tree.born(*top), 2)
        a = self.tree.born()
        self.tree.tell(partner(a, spouse))
        self.assertEqual(self.tree.word(a, cousin), "first cousin once removed-in-law")

    def test_the_first_such_partner_by_numbers(self):
        # Partners 0 (nothing to b), 1 (b's child) and 2 (b's grandchild), told last first.
        rows = [person(0), person(0), person(0), person(1), person(0), parent(1, 3), parent(2, 1)]
        for order in ((0, 1, 2), (2, 1, 0), (1, 0, 2)):
            told = ask_rows(rows + [partner(4, one) for one in order] + [word(4, 3)])[-1]
            self.assertEqual(bytes(told[1:]), b"mother-in-law")
        rows = [person(0), person(0), person(0), person(1), person(0), parent(2, 3), parent(1, 2)]
        for order in ((0, 1, 2), (2, 1, 0), (1, 0, 2)):
            told = ask_rows(rows + [partner(4, one) for one in order] + [word(4, 3)])[-1]
            self.assertEqual(bytes(told[1:]), b"grandmother-in-law")

    def test_a_partner_of_before_does_not_count(self):
        top = self.tree.born(sex=1)
        one = self.tree.born(self.tree.born(top))
        other = self.tree.born(top)
        a = self.tree.born()
        self.tree.tell(partner(a, one), partner(a, other))
        self.assertEqual(self.tree.word(a, top), "grandmother-in-law")
        self.tree.tell(part(one, a))
        self.assertEqual(self.tree.word(a, top), "mother-in-law")
        self.tree.tell(part(a, other))
        self.assertEqual(self.tree.word(a, top), "not related")

    def test_blood_comes_first(self):
        top = self.tree.couple()
        a, spouse = self.tree.born(*top), self.tree.born(*top)
        low = self.tree.born(spouse, sex=1)
        self.tree.tell(partner(a, spouse))
        self.assertEqual(self.tree.word(a, low), "niece")

    def test_comes_before_the_partner_of_b(self):
        # b is the sister of a's partner, and the partner of a's brother.
        ours, theirs = self.tree.couple(), self.tree.couple()
        a, brother = self.tree.born(*ours), self.tree.born(*ours, sex=2)
        spouse, b = self.tree.born(*theirs), self.tree.born(*theirs, sex=1)
        self.tree.tell(partner(brother, b), partner(a, spouse))
        self.assertEqual(self.tree.word(a, b), "sister-in-law")
        self.tree.tell(part(a, spouse))
        self.assertEqual(self.tree.word(a, b), "brother's wife")


class PartnerOfOne(unittest.TestCase):
    def setUp(self):
        self.tree = Tree()

    def test_by_the_sex_of_b(self):
        for sex, wanted in ((1, "brother's wife"), (2, "brother's husband"), (0, "brother's spouse")):
            tree = Tree()
            top = tree.couple()
            a, brother = tree.born(*top, sex=1), tree.born(*top, sex=2)
            b = tree.born(sex=sex)
            tree.tell(partner(b, brother))
            self.assertEqual(tree.word(a, b), wanted)

    def test_by_the_sex_of_the_partner(self):
        for sex, wanted in ((1, "mother's husband"), (2, "father's husband"), (0, "parent's husband")):
            tree = Tree()
            top = tree.born(sex=sex)
            low = tree.born(top)
            b = tree.born(sex=2)
            tree.tell(partner(b, top))
            self.assertEqual(tree.word(low, b), wanted)

    def test_by_blood_to_the_partner(self):
        top = self.tree.couple()
        a, aunt, half = self.tree.born(*top), self.tree.born(*top), self.tree.born(top[0], self.tree.born(), sex=1)
        low = self.tree.below(a, 2)
        child = self.tree.born(a, sex=2)
        b = self.tree.born(sex=1)
        self.tree.tell(partner(b, aunt))
        self.assertEqual(self.tree.word(low, b), "grand-parent's sibling's wife")
        self.tree.tell(part(b, aunt), partner(b, half))
        self.assertEqual(self.tree.word(a, b), "half-sister's wife")
        self.tree.tell(part(b, half), partner(b, child))
        self.assertEqual(self.tree.word(a, b), "son's wife")
        self.assertEqual(self.tree.word(b, a), "parent-in-law")

    def test_the_first_such_partner_by_numbers(self):
        # b's partners 0 (nothing to a), 1 (a's mother) and 2 (a's grandmother), or the other way round.
        rows = [person(1), person(1), person(1), person(0), person(2)]
        for lines, wanted in (([parent(3, 1), parent(1, 2)], b"mother's husband"),
                              ([parent(3, 2), parent(2, 1)], b"grandmother's husband")):
            for order in ((0, 1, 2), (2, 1, 0), (1, 0, 2)):
                told = ask_rows(rows + lines + [partner(one, 4) for one in order] + [word(3, 4)])[-1]
                self.assertEqual(bytes(told[1:]), wanted)

    def test_a_partner_of_before_does_not_count(self):
        top = self.tree.born(sex=1)
        low = self.tree.born(top)
        b = self.tree.born(sex=2)
        self.tree.tell(partner(b, top))
        self.assertEqual([self.tree.word(low, b), self.tree.word(b, low)], ["mother's husband", "child-in-law"])
        self.tree.tell(part(top, b))
        self.assertEqual([self.tree.word(low, b), self.tree.word(b, low)], ["not related", "not related"])


class NotRelated(unittest.TestCase):
    def test_strangers(self):
        tree = Tree()
        a, b = tree.couple()
        self.assertEqual([tree.word(a, b), tree.word(b, a)], ["not related", "not related"])

    def test_a_child_in_common_alone(self):
        tree = Tree()
        a, b = tree.couple()
        tree.born(a, b)
        self.assertEqual(tree.word(a, b), "not related")

    def test_partners_on_both_sides_are_too_far(self):
        # The partner of one's partner's sibling, and a partner's partner.
        tree = Tree()
        top = tree.couple()
        one, other = tree.born(*top), tree.born(*top)
        a, b = tree.born(), tree.born()
        tree.tell(partner(a, one), partner(b, other))
        self.assertEqual([tree.word(a, b), tree.word(b, a)], ["not related", "not related"])

    def test_a_partner_of_a_partner(self):
        # By the partner whom they share: b is the partner of one who is nothing by blood to a.
        tree = Tree()
        a, b, shared = tree.born(), tree.born(), tree.born()
        tree.tell(partner(a, shared), partner(shared, b))
        self.assertEqual(tree.word(a, b), "not related")


class Cut(unittest.TestCase):
    def cut(self, most):
        return ask_rows([person(1), person(0), parent(1, 0), word(1, 0, most)])[-1]

    def test_at_most(self):
        whole = list(b"mother")
        for most in range(7):
            self.assertEqual(self.cut(most), [6] + whole[:most])

    def test_not_cut_where_there_are_fewer(self):
        for most in (6, 7, 100, 65535, 65536):
            self.assertEqual(self.cut(most), [6] + list(b"mother"))

    def test_the_ends_of_most(self):
        for most in (-1, -2, LOWEST, 65537, HIGHEST):
            self.assertEqual(self.cut(most), [-1])

    def test_words_of_every_sort(self):
        rows = [person(0), person(0), person(2), partner(0, 1), parent(2, 1)]
        asked = [word(0, 1, 3), word(0, 2, 10), word(0, 0, 4), word(2, 0, 11), word(2, 0, 0)]
        self.assertEqual(ask_rows(rows + asked)[-5:], [
            [6] + list(b"spo"), [10] + list(b"son-in-law"), [4] + list(b"self"), [15] + list(b"parent's sp"), [15],
        ])
        self.assertEqual(ask_rows(persons(2) + [word(0, 1, 4)])[-1], [11] + list(b"not "))

    def test_the_longest_line(self):
        rows = persons(29) + [parent(k, k + 1) for k in range(28)] + [word(0, 28, 160), word(0, 28)]
        whole = list(b"great-" * 26 + b"grandparent")
        self.assertEqual(ask_rows(rows)[-2:], [[167] + whole[:160], [167] + whole])


class Refused(unittest.TestCase):
    def test_a_person_who_is_not_there(self):
        for wrong in WRONG_PERSONS + (2, 3, 1024):
            asked = [word(0, wrong), word(wrong, 0), word(wrong, wrong), word(0, wrong, 0), word(wrong, 1, 1)]
            self.assertEqual(ask_rows(persons(2) + asked)[-5:], [[-1]] * 5, wrong)
        self.assertEqual(ask_rows([word(0, 0)]), [[-1]])

    def test_all_wrong(self):
        asked = [word(-1, 0, -1), word(0, 2, 65537), word(LOWEST, HIGHEST, LOWEST), word(HIGHEST, LOWEST, HIGHEST)]
        self.assertEqual(ask_rows(persons(2) + asked)[-4:], [[-1]] * 4)

    def test_the_first_and_the_last_are_there(self):
        self.assertEqual(ask_rows(persons(3) + [word(0, 2, 0), word(2, 2, 0)])[-2:], [[11], [4]])

    def test_nothing_is_left_by_what_was_cleared(self):
        rows = [person(1), person(1), partner(0, 1), CLEAR, word(0, 1)] + persons(3) + [word(0, 1), parent(2, 0)]
        rows += [partner(0, 1), word(0, 1), word(0, 2)]
        told = ask_rows(rows)
        texts = [bytes(row[1:]) for row in told if len(row) > 1]
        self.assertEqual((told[4], texts), ([-1], [b"not related", b"spouse", b"child"]))


class ManyPartners(unittest.TestCase):
    def test_many_partners_are_answered_soon(self):
        # 0 has 80 partners, who are all nothing to the last; so has the last.
        rows = persons(122) + [partner(0, k) for k in range(1, 81)] + [partner(121, k) for k in range(41, 121)]
        told = ask_apart(rows + [word(0, 121, 0), word(121, 0, 0)] * 50)[-100:]
        self.assertEqual(told, [[11]] * 100)


if __name__ == "__main__":
    unittest.main()
