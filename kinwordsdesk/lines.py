"""Lines from one person to another, along parents or along children."""


def one_step(links, level):
    """Whom one step along links reaches from anybody of level, each once."""
    reached = {}
    for person in level:
        for other in links[person]:
            reached[other] = True
    return list(reached)


def levels_from(links, start):
    """A list whose place k holds those at the end of a line of k steps from start.

    Lines are not walked one by one, as there may be two to the power of 28 of them:
    at each step, each person is held once.
    """
    levels = []
    level = [start]
    while len(level) > 0:
        levels.append(level)
        level = one_step(links, level)
    return levels


def fewest_steps(links, start):
    """A dict of all whom a line from start reaches, with the steps of the shortest such line; start has 0."""
    steps = {}
    level = [start]
    count = 0
    while len(level) > 0:
        for person in level:
            steps[person] = count
        # Who was reached before has fewer steps already.
        level = [person for person in one_step(links, level) if person not in steps]
        count += 1
    return steps


def longest(levels):
    """How many steps the longest line has; levels is what levels_from gives."""
    return len(levels) - 1


def is_within(levels, person):
    """Whether some line ends at person; the one it starts from counts, by no step."""
    return any([person in level for level in levels])
