"""Who is common to two persons, and who of these is the nearest."""


class Nearest:
    """The nearest common to a and b: persons, by their numbers, m steps up from a and n from b."""

    def __init__(self, m, n, persons):
        self.m = m
        self.n = n
        self.persons = persons


def nearest_common(up_a, up_b):
    """The nearest common ones, or None if there's nobody; up_a and up_b are the fewest steps up from a and b.

    Longer lines needn't be looked at: they only make more steps together.
    """
    shared = [person for person in up_a if person in up_b]
    if len(shared) == 0:
        return None
    least = min([(up_a[person] + up_b[person], up_a[person]) for person in shared])
    m = least[1]
    n = least[0] - m
    return Nearest(m, n, sorted([person for person in shared if up_a[person] == m and up_b[person] == n]))


def is_half(family, nearest, up_a, up_b):
    """Whether it's a half: one alone is the nearest, and the children of it on the ways have two parents told."""
    if nearest.m == 0 or nearest.n == 0 or len(nearest.persons) > 1:
        return False
    # No line to such a child has fewer steps, as then the nearest would be nearer: so the fewest will do.
    for child in family.children[nearest.persons[0]]:
        on_a_way = up_a.get(child) == nearest.m - 1 or up_b.get(child) == nearest.n - 1
        if on_a_way and len(family.parents[child]) < 2:
            return False
    return True
