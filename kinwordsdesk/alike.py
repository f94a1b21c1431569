"""How likely it is that two persons have the same from one."""

from kinwordsdesk.lines import levels_from

# What stands for 1: 2 to the power of 60. Lines of 28 steps halve it 57 times at most, so nothing is lost.
CERTAIN = 1152921504606846976


def parents_first(parents, a, b):
    """Everybody at or above a or b, each of them behind their own parents."""
    furthest = {}
    for start in (a, b):
        for steps, level in enumerate(levels_from(parents, start)):
            for person in level:
                furthest[person] = max(steps, furthest.get(person, 0))
    return sorted(furthest, key=lambda person: -furthest[person])


def alike_oneself(rows, above):
    """How likely one with the parents above has the same twice."""
    if len(above) < 2:
        return CERTAIN // 2
    return (CERTAIN + rows[above[0]][above[1]]) // 2


def alike_rows(parents, order):
    """For each of order a dict: how likely they and each of order have the same from one.

    The document goes up from whoever isn't above the other; who comes later in order never is.
    """
    rows = {}
    for person in order:
        row = {}
        for other in rows:
            row[other] = sum([rows[above][other] for above in parents[person]]) // 2
        for other in row:
            rows[other][person] = row[other]
        row[person] = alike_oneself(rows, parents[person])
        rows[person] = row
    return rows


def how_alike(parents, a, b):
    """How likely a and b have the same from one, over CERTAIN."""
    return alike_rows(parents, parents_first(parents, a, b))[a][b]
