"""Promise 8: kn_word, of such as have somebody in common."""

import unittest

from helper import Tree, ask_apart, diamonds, parent, partner, word

COUSINS = {
    1: "first", 2: "second", 3: "third", 4: "fourth", 5: "fifth", 6: "sixth", 7: "seventh", 8: "eighth", 9: "ninth",
    10: "tenth", 11: "eleventh", 12: "twelfth", 13: "thirteenth", 14: "fourteenth", 15: "fifteenth", 16: "sixteenth",
    17: "seventeenth", 18: "eighteenth", 19: "nineteenth", 20: "twentieth",
    21: "distant", 22: "distant", 23: "distant", 24: "distant", 25: "distant", 26: "distant", 27: "distant",
}


def word_below(m, n, sex, half=False):
    """The word for one of that sex who is n steps below a couple, to one who is m steps below it.

    With half, it's one person with a child by each of two others.
    """
    tree = Tree()
    top = tree.couple()
    other_top = (top[0], tree.born()) if half else top
    a = tree.below(tree.born(*top), m - 1)
    b = tree.below(tree.born(*other_top, sex=sex if n == 1 else 0), n - 1, sex)
    return tree.word(a, b)


class Straight(unittest.TestCase):
    def words_up(self, steps):
        """The words for a woman, a man and one not told, that many steps up."""
        words = []
        for sex in (1, 2, 0):
            tree = Tree()
            top = tree.born(sex=sex)
            words.append(tree.word(tree.below(top, steps), top))
        return words

    def words_down(self, steps):
        words = []
        for sex in (1, 2, 0):
            tree = Tree()
            top = tree.born()
            words.append(tree.word(top, tree.below(top, steps, sex)))
        return words

    def test_self(self):
        for sex in (0, 1, 2):
            tree = Tree()
            one = tree.born(sex=sex)
            low = tree.born(one, sex=sex)
            tree.tell(partner(one, low))
            self.assertEqual([tree.word(one, one), tree.word(low, low)], ["self", "self"])

    def test_up(self):
        self.assertEqual(self.words_up(1), ["mother", "father", "parent"])
        self.assertEqual(self.words_up(2), ["grandmother", "grandfather", "grandparent"])
        self.assertEqual(self.words_up(3), ["great-grandmother", "great-grandfather", "great-grandparent"])
        self.assertEqual(self.words_up(5)[0], "great-great-great-grandmother")

    def test_down(self):
        self.assertEqual(self.words_down(1), ["daughter", "son", "child"])
        self.assertEqual(self.words_down(2), ["granddaughter", "grandson", "grandchild"])
        self.assertEqual(self.words_down(3), ["great-granddaughter", "great-grandson", "great-grandchild"])
        self.assertEqual(self.words_down(5)[1], "great-great-great-grandson")

    def test_every_length(self):
        for steps in range(2, 29):
            greats = "great-" * (steps - 2)
            ups = [greats + end for end in ("grandmother", "grandfather", "grandparent")]
            downs = [greats + end for end in ("granddaughter", "grandson", "grandchild")]
            self.assertEqual((self.words_up(steps), self.words_down(steps)), (ups, downs), steps)

    def test_the_shortest_line_counts(self):
        tree = Tree()
        top = tree.born(sex=1)
        low = tree.born(top, tree.born(top), sex=2)
        self.assertEqual([tree.word(low, top), tree.word(top, low)], ["mother", "son"])

    def test_never_a_half(self):
        # One alone is the nearest, and all on the way have two parents told.
        tree = Tree()
        top = tree.born(sex=1)
        middle = tree.born(top, tree.born(), sex=2)
        low = tree.born(middle, tree.born(), sex=1)
        self.assertEqual([tree.word(low, top), tree.word(top, low)], ["grandmother", "granddaughter"])
        self.assertEqual([tree.word(low, middle), tree.word(middle, low)], ["father", "daughter"])


class Aside(unittest.TestCase):
    def words(self, m, n, half=False):
        return [word_below(m, n, sex, half) for sex in (1, 2, 0)]

    def test_siblings(self):
        self.assertEqual(self.words(1, 1), ["sister", "brother", "sibling"])

    def test_aunts_and_their_like(self):
        self.assertEqual(self.words(2, 1), ["aunt", "uncle", "parent's sibling"])
        self.assertEqual(self.words(3, 1), ["grand-aunt", "grand-uncle", "grand-parent's sibling"])
        self.assertEqual(self.words(4, 1), ["great-grand-aunt", "great-grand-uncle", "great-grand-parent's sibling"])
        self.assertEqual(self.words(6, 1)[0], "great-great-great-grand-aunt")

    def test_nieces_and_their_like(self):
        self.assertEqual(self.words(1, 2), ["niece", "nephew", "sibling's child"])
        self.assertEqual(self.words(1, 3), ["grand-niece", "grand-nephew", "grand-sibling's child"])
        self.assertEqual(self.words(1, 4), ["great-grand-niece", "great-grand-nephew", "great-grand-sibling's child"])
        self.assertEqual(self.words(1, 6)[1], "great-great-great-grand-nephew")

    def test_every_length(self):
        for steps in range(3, 29):
            for half in (False, True):
                before = "half-" * half + "great-" * (steps - 3) + "grand-"
                ups = [before + end for end in ("aunt", "uncle", "parent's sibling")]
                downs = [before + end for end in ("niece", "nephew", "sibling's child")]
                self.assertEqual((self.words(steps, 1, half), self.words(1, steps, half)), (ups, downs), steps)

    def test_by_half(self):
        self.assertEqual(self.words(1, 1, True), ["half-sister", "half-brother", "half-sibling"])
        self.assertEqual(self.words(2, 1, True), ["half-aunt", "half-uncle", "half-parent's sibling"])
        self.assertEqual(self.words(1, 2, True), ["half-niece", "half-nephew", "half-sibling's child"])
        self.assertEqual(self.words(4, 1, True)[0], "half-great-grand-aunt")


class Cousins(unittest.TestCase):
    def test_some_as_they_are_written(self):
        for m, n, wanted in (
            (2, 2, "first cousin"), (3, 3, "second cousin"), (4, 4, "third cousin"),
            (2, 3, "first cousin once removed"), (3, 2, "first cousin once removed"),
            (5, 3, "second cousin twice removed"), (3, 5, "second cousin twice removed"),
            (2, 5, "first cousin thrice removed"), (6, 2, "first cousin 4 times removed"),
            (2, 7, "first cousin 5 times removed"), (12, 2, "first cousin 10 times removed"),
            (28, 2, "first cousin 26 times removed"), (2, 28, "first cousin 26 times removed"),
            (21, 21, "twentieth cousin"), (22, 22, "distant cousin"), (28, 28, "distant cousin"),
            (21, 28, "twentieth cousin 7 times removed"), (28, 22, "distant cousin 6 times removed"),
            (23, 22, "distant cousin once removed"),
        ):
            self.assertEqual(word_below(m, n, 0), wanted)

    def test_sex_does_not_matter(self):
        self.assertEqual([word_below(3, 2, sex) for sex in (0, 1, 2)], ["first cousin once removed"] * 3)

    def test_each_degree(self):
        for degree, name in COUSINS.items():
            self.assertEqual(word_below(degree + 1, degree + 1, 1), f"{name} cousin")
            self.assertEqual(word_below(degree + 1, degree + 1, 2, True), f"half-{name} cousin")

    def test_each_removal(self):
        names = ["", " once removed", " twice removed", " thrice removed"]
        names += [f" {count} times removed" for count in range(4, 27)]
        for count, name in enumerate(names):
            self.assertEqual(word_below(2, 2 + count, 0), "first cousin" + name)
            self.assertEqual(word_below(2 + count, 2, 0, True), "half-first cousin" + name)

    def test_all_steps(self):
        removed = ["", " once removed", " twice removed", " thrice removed"]
        for m in range(2, 29):
            for n in range(2, 29):
                apart = max(m, n) - min(m, n)
                end = removed[apart] if apart < 4 else f" {apart} times removed"
                wanted = COUSINS[min(m, n) - 1] + " cousin" + end
                self.assertEqual(word_below(m, n, 0), wanted, (m, n))


class Half(unittest.TestCase):
    def setUp(self):
        self.tree = Tree()

    def both(self, a, b):
        return [self.tree.word(a, b), self.tree.word(b, a)]

    def test_two_nearest_are_no_half(self):
        top = self.tree.couple()
        a, b = self.tree.born(*top, sex=1), self.tree.born(*top, sex=2)
        self.assertEqual(self.both(a, b), ["brother", "sister"])

    def test_one_nearest_and_all_told(self):
        top = self.tree.born()
        a = self.tree.born(top, self.tree.born(), sex=1)
        b = self.tree.born(self.tree.born(), top, sex=2)
        self.assertEqual(self.both(a, b), ["half-brother", "half-sister"])

    def test_one_parent_told_on_either_way_is_no_half(self):
        top = self.tree.born()
        told = self.tree.born(top, self.tree.born(), sex=1)
        untold = self.tree.born(top, sex=2)
        untold_too = self.tree.born(top, sex=1)
        self.assertEqual(self.both(told, untold), ["brother", "sister"])
        self.assertEqual(self.both(untold, untold_too), ["sister", "brother"])

    def test_the_second_parent_may_come_later(self):
        top = self.tree.born()
        a, b = self.tree.born(top, self.tree.born()), self.tree.born(top)
        self.assertEqual(self.tree.word(a, b), "sibling")
        self.tree.tell(parent(b, self.tree.born()))
        self.assertEqual(self.tree.word(a, b), "half-sibling")

    def test_cousins_by_half_where_only_their_own_parents_are_untold(self):
        # Only the children of the nearest count, not those further down.
        top = self.tree.born()
        one = self.tree.born(top, self.tree.born())
        other = self.tree.born(top, self.tree.born())
        a, b = self.tree.born(one), self.tree.born(other)
        self.assertEqual(self.both(a, b), ["half-first cousin"] * 2)
        self.assertEqual(self.tree.word(a, other), "half-parent's sibling")
        self.assertEqual(self.tree.word(one, b), "half-sibling's child")

    def test_cousins_with_one_parent_told_on_the_way_from_a_or_from_b(self):
        top = self.tree.born()
        told = self.tree.born(self.tree.born(top, self.tree.born()))
        untold = self.tree.born(self.tree.born(top))
        self.assertEqual(self.both(told, untold), ["first cousin"] * 2)
        self.assertEqual(self.both(untold, self.tree.born(told)), ["first cousin once removed"] * 2)

    def test_other_children_of_the_nearest_do_not_count(self):
        top = self.tree.born()
        a, b = self.tree.born(top, self.tree.born()), self.tree.born(top, self.tree.born())
        self.tree.born(top)
        self.assertEqual(self.both(a, b), ["half-sibling"] * 2)

    def test_a_child_on_a_longer_way_does_not_count(self):
        # a comes to top by one step, and by three through a child of top with one parent told.
        top = self.tree.born()
        a = self.tree.born(top, self.tree.below(top, 2))
        b = self.tree.born(top, self.tree.born())
        self.assertEqual(self.both(a, b), ["half-sibling"] * 2)

    def test_every_child_on_a_way_counts(self):
        # a comes to top by two children of it, and one of them has one parent told.
        top = self.tree.born()
        one, other = self.tree.born(top, self.tree.born()), self.tree.born(top)
        a = self.tree.born(one, other)
        b = self.tree.born(self.tree.born(top, self.tree.born()))
        self.assertEqual(self.both(a, b), ["first cousin"] * 2)
        self.tree.tell(parent(other, self.tree.born()))
        self.assertEqual(self.both(a, b), ["half-first cousin"] * 2)

    def test_others_in_common_further_up_leave_it_a_half(self):
        # Half siblings whose other parents are siblings.
        top = self.tree.born()
        higher = self.tree.couple()
        a = self.tree.born(top, self.tree.born(*higher), sex=1)
        b = self.tree.born(top, self.tree.born(*higher), sex=2)
        self.assertEqual(self.both(a, b), ["half-brother", "half-sister"])

    def test_the_nearest_by_fewest_from_a(self):
        # By x 1 and 2 steps, by y 2 and 1: niece one way, and niece the other way, too.
        x, y = self.tree.born(), self.tree.born()
        a = self.tree.born(x, self.tree.born(y), sex=1)
        b = self.tree.born(y, self.tree.born(x), sex=1)
        self.assertEqual(self.both(a, b), ["niece", "niece"])

    def test_partners_do_not_matter(self):
        top = self.tree.born()
        a = self.tree.born(top, self.tree.born(), sex=1)
        b = self.tree.born(top, self.tree.born(), sex=2)
        self.tree.tell(partner(a, b), partner(top, a))
        self.assertEqual(self.both(a, b), ["half-brother", "half-sister"])
        self.assertEqual(self.both(a, top), ["parent", "daughter"])


class ManyLines(unittest.TestCase):
    def test_two_to_the_28_lines_are_answered_soon(self):
        asked = [word(0, 1), word(0, 57), word(56, 0), word(56, 57), word(0, 3), word(2, 1)]
        told = ask_apart(diamonds(28) + asked)[-6:]
        texts = [bytes(row[1:]).decode("ascii") for row in told]
        greats = "great-" * 26
        self.assertEqual(texts, ["sibling", greats + "grandparent", greats + "grandchild", "not related", "parent",
                                 "child"])
        self.assertEqual([row[0] for row in told], [len(text) for text in texts])


if __name__ == "__main__":
    unittest.main()
