"""Persons, their parents and their partners, as they are told."""

from kinwordsdesk.lines import is_within, levels_from, longest

MOST_PERSONS = 1024
MOST_PARENTS = 2
MOST_PAIRS = 4096
MOST_STEPS = 28
LAST_SEX = 2


def pair_of(a, b):
    """One key for both ways of telling two partners."""
    return (min(a, b), max(a, b))


class Family:
    """The one set of persons that calls are made on.

    sexes, parents and children have a place for each person; pairs has a key for each two partners.
    A number below 0 that a method gives back is a refusal, and then nothing is changed.
    """

    def __init__(self):
        self.sexes = []
        self.parents = []
        self.children = []
        self.pairs = {}

    def forget_all(self):
        """kn_clear."""
        self.sexes.clear()
        self.parents.clear()
        self.children.clear()
        self.pairs.clear()
        return 0

    def has_both(self, a, b):
        """Whether a and b are persons; they may be one."""
        return 0 <= min(a, b) and max(a, b) < len(self.sexes)

    def add_person(self, sex):
        """kn_person."""
        if sex < 0 or sex > LAST_SEX:
            return -1
        if len(self.sexes) >= MOST_PERSONS:
            return -2
        self.sexes.append(sex)
        self.parents.append([])
        self.children.append([])
        return len(self.sexes) - 1

    def add_parent(self, child, parent):
        """kn_parent."""
        if not self.has_both(child, parent):
            return -1
        if parent in self.parents[child]:
            return 0
        if len(self.parents[child]) >= MOST_PARENTS:
            return -2
        above = levels_from(self.parents, parent)
        if is_within(above, child):
            return -3
        # The new step may join a line below the child to one above the parent.
        below = levels_from(self.children, child)
        if longest(below) + 1 + longest(above) > MOST_STEPS:
            return -4
        self.parents[child].append(parent)
        self.children[parent].append(child)
        return 1

    def are_partners(self, a, b):
        """Whether a and b are partners now; nobody is their own."""
        return pair_of(a, b) in self.pairs

    def partners_of(self, a):
        """The partners of a, by their numbers."""
        return [other for other in range(len(self.sexes)) if self.are_partners(a, other)]

    def add_partners(self, a, b):
        """kn_partner."""
        if not self.has_both(a, b) or a == b:
            return -1
        if self.are_partners(a, b):
            return 0
        if len(self.pairs) >= MOST_PAIRS:
            return -2
        self.pairs[pair_of(a, b)] = True
        return 1

    def part_partners(self, a, b):
        """kn_part. One person alone is no refusal here: nobody is their own partner, so it's 0."""
        if not self.has_both(a, b):
            return -1
        if not self.are_partners(a, b):
            return 0
        self.pairs.pop(pair_of(a, b))
        return 1
