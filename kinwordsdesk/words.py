"""The words for what persons are to one another."""

# Of each tuple, the place is a sex: not told, a woman, a man.
PARENT = ("parent", "mother", "father")
CHILD = ("child", "daughter", "son")
SIBLING = ("sibling", "sister", "brother")
SIBLING_OF_PARENT = ("parent's sibling", "aunt", "uncle")
CHILD_OF_SIBLING = ("sibling's child", "niece", "nephew")
PARTNER = ("spouse", "wife", "husband")

COUSINS = (
    "first", "second", "third", "fourth", "fifth", "sixth", "seventh", "eighth", "ninth", "tenth",
    "eleventh", "twelfth", "thirteenth", "fourteenth", "fifteenth", "sixteenth", "seventeenth",
    "eighteenth", "nineteenth", "twentieth",
)
REMOVED = ("", " once removed", " twice removed", " thrice removed")


def straight_word(near, steps):
    """The word for one above or below; near is the word by one step."""
    if steps == 1:
        return near
    return "great-" * (steps - 2) + "grand" + near


def aside_word(near, steps):
    """The word for a sibling of one above, or one below a sibling; near is the word by two steps."""
    if steps == 2:
        return near
    return "great-" * (steps - 3) + "grand-" + near


def cousin_word(m, n):
    """The word for a cousin, by degree and removal."""
    degree = min(m, n) - 1
    degree_word = COUSINS[degree - 1] if degree <= len(COUSINS) else "distant"
    removed = abs(m - n)
    removed_word = REMOVED[removed] if removed < len(REMOVED) else f" {removed} times removed"
    return degree_word + " cousin" + removed_word


def branch_word(m, n, sex):
    """The word for one who is not above or below; m and n are 1 at least."""
    if m == 1 and n == 1:
        return SIBLING[sex]
    if n == 1:
        return aside_word(SIBLING_OF_PARENT[sex], m)
    if m == 1:
        return aside_word(CHILD_OF_SIBLING[sex], n)
    return cousin_word(m, n)


def blood_word(m, n, half, sex):
    """The word by blood for one of that sex, n steps below the nearest, to one m steps below them."""
    if m == 0 and n == 0:
        return "self"
    if n == 0:
        return straight_word(PARENT[sex], m)
    if m == 0:
        return straight_word(CHILD[sex], n)
    word = branch_word(m, n, sex)
    return "half-" + word if half else word
