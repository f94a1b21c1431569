"""Many lists of calls, each answered the same by a slow and plain reading of the document."""

import random
import unittest
from fractions import Fraction

from helper import (CLEAR, HIGHEST, LOWEST, above, alike, ask, ask_rows, common, parent, part, partner, person, word)

# The words for a woman, a man and one not told.
SEXES = {1: 0, 2: 1, 0: 2}
COUSINS = """first second third fourth fifth sixth seventh eighth ninth tenth eleventh twelfth thirteenth fourteenth
    fifteenth sixteenth seventeenth eighteenth nineteenth twentieth""".split()


class Model:
    """Told links as they are; what a link would make is looked at by trying it."""

    def __init__(self):
        self.count = 0
        self.sexes = []
        self.links = set()
        self.pairs = set()

    def there(self, *numbers):
        return all(number in range(self.count) for number in numbers)

    def height(self, who, links, known):
        """The longest line up from who; None if it comes round."""
        if who in known:
            return known[who]
        known[who] = None
        heights = [self.height(above, links, known) for below, above in sorted(links) if below == who]
        known[who] = None if None in heights else max([height + 1 for height in heights], default=0)
        return known[who]

    def tell_parent(self, child, above):
        if not self.there(child, above):
            return -1
        if (child, above) in self.links:
            return 0
        if len([link for link in self.links if link[0] == child]) == 2:
            return -2
        tried = self.links | {(child, above)}
        known = {}
        heights = [self.height(who, tried, known) for who in range(self.count)]
        if None in heights:
            return -3
        if max(heights) > 28:
            return -4
        self.links = tried
        return 1

    def tell_partner(self, a, b):
        if not self.there(a, b) or a == b:
            return -1
        if frozenset((a, b)) in self.pairs:
            return 0
        self.pairs.add(frozenset((a, b)))
        return 1

    def tell_part(self, a, b):
        if not self.there(a, b):
            return -1
        if frozenset((a, b)) not in self.pairs:
            return 0
        self.pairs.remove(frozenset((a, b)))
        return 1

    def tell_person(self, sex):
        if sex not in (0, 1, 2):
            return -1
        self.count += 1
        self.sexes.append(sex)
        return self.count - 1

    def parents(self, who):
        return sorted(link[1] for link in self.links if link[0] == who)

    def ends(self, who):
        """Every person and number of steps that some line up from who has."""
        found = {(who, 0)}
        for one in self.parents(who):
            found |= {(top, steps + 1) for top, steps in self.ends(one)}
        return found

    def is_above(self, a, b):
        return any(top == a and steps > 0 for top, steps in self.ends(b))

    def ask_above(self, a, k):
        if not self.there(a) or k not in range(29):
            return [-1]
        return [len({top for top, steps in self.ends(a) if steps == k})]

    def nearest(self, a, b):
        """All of m, n and a person that are the nearest, in their order."""
        shared = [(m, n, top) for top, m in self.ends(a) for other, n in self.ends(b) if top == other]
        fewest = min([m + n for m, n, _ in shared], default=None)
        shared = [one for one in shared if one[0] + one[1] == fewest]
        first = min([m for m, _, _ in shared], default=None)
        return sorted(one for one in shared if one[0] == first)

    def ask_common(self, a, b):
        if not self.there(a, b):
            return [-1]
        found = self.nearest(a, b)
        return [len(found)] + list(found[0] if found else ())

    def likely(self, a, b, known):
        """As the document goes up; known holds what was found before."""
        if (a, b) not in known:
            if a == b:
                pair = self.parents(a)
                part = (1 + (self.likely(*pair, known) if len(pair) == 2 else 0)) * Fraction(1, 2)
            elif self.is_above(a, b):
                part = sum(self.likely(a, one, known) for one in self.parents(b)) * Fraction(1, 2)
            else:
                part = sum(self.likely(one, b, known) for one in self.parents(a)) * Fraction(1, 2)
            known[(a, b)] = part
        return known[(a, b)]

    def ask_alike(self, a, b):
        if not self.there(a, b):
            return [-1]
        part = self.likely(a, b, {}) * 2 ** 60
        if part != int(part):
            raise AssertionError(f"not whole: {part}")
        return [0, int(part)]

    def is_half(self, a, b):
        found = self.nearest(a, b)
        if len(found) != 1 or 0 in found[0][:2]:
            return False
        m, n, top = found[0]
        on_way = [child for child, one in self.links
                  if one == top and ((child, m - 1) in self.ends(a) or (child, n - 1) in self.ends(b))]
        return all(len(self.parents(child)) == 2 for child in on_way)

    def by_sex(self, who, words):
        return words.split("/")[SEXES[self.sexes[who]]]

    def blood(self, a, b):
        """The word by blood, or an empty one."""
        found = self.nearest(a, b)
        if not found:
            return ""
        m, n, _ = found[0]
        if 0 in (m, n):
            if m == n:
                return "self"
            near = self.by_sex(b, "mother/father/parent" if m else "daughter/son/child")
            return "great-" * (m + n - 2) + "grand" * (m + n > 1) + near
        half = "half-" if self.is_half(a, b) else ""
        if m == n == 1:
            return half + self.by_sex(b, "sister/brother/sibling")
        if 1 in (m, n):
            near = self.by_sex(b, "aunt/uncle/parent's sibling" if n == 1 else "niece/nephew/sibling's child")
            return half + "great-" * (m + n - 4) + "grand-" * (m + n > 3) + near
        degree, removed = min(m, n) - 1, abs(m - n)
        times = {1: "once", 2: "twice", 3: "thrice"}.get(removed, f"{removed} times")
        return half + (COUSINS + ["distant"] * 9)[degree - 1] + " cousin" + f" {times} removed" * (removed > 0)

    def partners(self, who):
        return [other for other in range(self.count) if other != who and frozenset((who, other)) in self.pairs]

    def whole_word(self, a, b):
        as_partner = self.by_sex(b, "wife/husband/spouse")
        tried = [self.blood(a, b)]
        tried += [as_partner for one in self.partners(a) if one == b]
        tried += [self.blood(one, b) + "-in-law" for one in self.partners(a) if self.blood(one, b)]
        tried += [self.blood(a, one) + "'s " + as_partner for one in self.partners(b) if self.blood(a, one)]
        return [text for text in tried + ["not related"] if text][0]

    def ask_word(self, a, b, most):
        if not self.there(a, b) or most not in range(65537):
            return [-1]
        whole = self.whole_word(a, b).encode("ascii")
        return [len(whole)] + list(whole[:most])

    def answer(self, call):
        if call[0] == 1:
            self.__init__()
            return [0]
        asked = {6: self.ask_above, 7: self.ask_common, 8: self.ask_alike, 9: self.ask_word}
        if call[0] in asked:
            return asked[call[0]](*call[1:])
        told = {2: self.tell_person, 3: self.tell_parent, 4: self.tell_partner, 5: self.tell_part}
        return [told[call[0]](*call[1:])]


def any_call(source, count):
    """A call mostly on persons 0 to count - 1, at times on others."""
    def anybody():
        if source.random() < 0.05:
            return source.choice((-1, count, LOWEST, HIGHEST))
        return source.randrange(count)

    kind = source.random()
    if kind < 0.01:
        return CLEAR
    if kind < 0.08:
        return person(source.choice((-1, 0, 1, 2, 3)))
    if kind < 0.35:
        return parent(anybody(), anybody())
    if kind < 0.5:
        return source.choice((partner, partner, part))(anybody(), anybody())
    if kind < 0.6:
        return above(anybody(), source.choice((-1, 0, 1, 2, 3, 4, 28, 29)))
    if kind < 0.8:
        return source.choice((common, alike))(anybody(), anybody())
    return word(anybody(), anybody(), source.choice((-1, 0, 1, 5, 65536, 65536, 65536, 65537)))


def near_call(source, count):
    """A parent a few places on, so that lines come to their full length."""
    child = source.randrange(count)
    return parent(child, child + source.choice((1, 1, 1, 2, 3, -1)))


def downward(source, count, likely):
    """Persons whose parents, none to two, are a few places before them, and pairs of partners."""
    calls = [person(source.randrange(3)) for _ in range(count)]
    for child in range(1, count):
        nearby = range(max(0, child - 6), child)
        chosen = source.sample(nearby, min(len(nearby), source.choices((0, 1, 2), likely)[0]))
        calls += [parent(child, one) for one in chosen]
    return calls + [partner(source.randrange(count), source.randrange(count)) for _ in range(count // 2)]


class AgainstModel(unittest.TestCase):
    def compare(self, calls):
        model = Model()
        self.assertEqual(ask_rows(calls), [model.answer(call) for call in calls])

    def compare_all_pairs(self, calls, count):
        """Every two of the persons, by each question; in several lists, as one doesn't hold so many calls."""
        pairs = [(a, b) for a in range(count) for b in range(count)]
        for at in range(0, len(pairs), 90):
            asked = [question(a, b) for a, b in pairs[at:at + 90] for question in (common, alike, word)]
            self.compare(calls + asked)

    def test_few_persons(self):
        for seed in range(60):
            source = random.Random(seed)
            count = source.randrange(1, 12)
            calls = [person(source.randrange(3)) for _ in range(count)]
            calls += [any_call(source, count) for _ in range(120)]
            self.compare(calls)

    def test_long_lines(self):
        for seed in range(15):
            source = random.Random(seed)
            calls = [person() for _ in range(40)]
            calls += [near_call(source, 40) for _ in range(200)]
            self.compare(calls)

    def test_families(self):
        for seed in range(40):
            source = random.Random(seed)
            count = source.randrange(8, 15)
            self.compare_all_pairs(downward(source, count, source.choice(((1, 1, 4), (2, 3, 2), (4, 2, 1)))), count)

    def test_higher_families(self):
        for seed in range(10):
            source = random.Random(seed)
            calls = downward(source, 30, (3, 6, 1))
            self.compare(calls + [question(source.randrange(30), source.randrange(30))
                                  for _ in range(90) for question in (common, alike, word)])

    def test_the_long_lines_meet_every_answer(self):
        source = random.Random(0)
        calls = [person() for _ in range(40)] + [near_call(source, 40) for _ in range(350)]
        self.assertEqual(set(ask(calls)[40:]), {1, 0, -1, -2, -3, -4})


if __name__ == "__main__":
    unittest.main()
