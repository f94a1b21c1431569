"""Many lists of calls, each answered the same by a slow and plain reading of the document."""

import random
import unittest

from helper import CLEAR, HIGHEST, LOWEST, ask, parent, part, partner, person


class Model:
    """Told links as they are; what a link would make is looked at by trying it."""

    def __init__(self):
        self.count = 0
        self.links = set()
        self.pairs = set()

    def there(self, *numbers):
        return all(number in range(self.count) for number in numbers)

    def height(self, who, links, known):
        """The longest line up from who; None if it comes round."""
        if who in known:
            return known[who]
        known[who] = None
        heights = [self.height(above, links, known) for below, above in sorted(links) if below == who]
        known[who] = None if None in heights else max([height + 1 for height in heights], default=0)
        return known[who]

    def tell_parent(self, child, above):
        if not self.there(child, above):
            return -1
        if (child, above) in self.links:
            return 0
        if len([link for link in self.links if link[0] == child]) == 2:
            return -2
        tried = self.links | {(child, above)}
        known = {}
        heights = [self.height(who, tried, known) for who in range(self.count)]
        if None in heights:
            return -3
        if max(heights) > 28:
            return -4
        self.links = tried
        return 1

    def tell_partner(self, a, b):
        if not self.there(a, b) or a == b:
            return -1
        if frozenset((a, b)) in self.pairs:
            return 0
        self.pairs.add(frozenset((a, b)))
        return 1

    def tell_part(self, a, b):
        if not self.there(a, b):
            return -1
        if frozenset((a, b)) not in self.pairs:
            return 0
        self.pairs.remove(frozenset((a, b)))
        return 1

    def tell_person(self, sex):
        if sex not in (0, 1, 2):
            return -1
        self.count += 1
        return self.count - 1

    def answer(self, call):
        if call[0] == 1:
            self.__init__()
            return 0
        told = {2: self.tell_person, 3: self.tell_parent, 4: self.tell_partner, 5: self.tell_part}
        return told[call[0]](*call[1:])


def any_call(source, count):
    """A call mostly on persons 0 to count - 1, at times on others."""
    def anybody():
        if source.random() < 0.05:
            return source.choice((-1, count, LOWEST, HIGHEST))
        return source.randrange(count)

    kind = source.random()
    if kind < 0.01:
        return CLEAR
    if kind < 0.1:
        return person(source.choice((-1, 0, 1, 2, 3)))
    if kind < 0.75:
        return parent(anybody(), anybody())
    return source.choice((partner, part))(anybody(), anybody())


def near_call(source, count):
    """A parent a few places on, so that lines come to their full length."""
    child = source.randrange(count)
    return parent(child, child + source.choice((1, 1, 1, 2, 3, -1)))


class AgainstModel(unittest.TestCase):
    def compare(self, calls):
        model = Model()
        self.assertEqual(ask(calls), [model.answer(call) for call in calls])

    def test_few_persons(self):
        for seed in range(60):
            source = random.Random(seed)
            count = source.randrange(1, 12)
            calls = [person(source.randrange(3)) for _ in range(count)]
            calls += [any_call(source, count) for _ in range(120)]
            self.compare(calls)

    def test_long_lines(self):
        for seed in range(15):
            source = random.Random(seed)
            calls = [person() for _ in range(40)]
            calls += [near_call(source, 40) for _ in range(200)]
            self.compare(calls)

    def test_the_long_lines_meet_every_answer(self):
        source = random.Random(0)
        calls = [person() for _ in range(40)] + [near_call(source, 40) for _ in range(350)]
        self.assertEqual(set(ask(calls)[40:]), {1, 0, -1, -2, -3, -4})


if __name__ == "__main__":
    unittest.main()
