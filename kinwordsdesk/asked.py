"""What's asked about persons: each answer is a list of numbers, and a refusal is -1 alone."""

from kinwordsdesk.alike import how_alike
from kinwordsdesk.common import nearest_common
from kinwordsdesk.family import MOST_STEPS
from kinwordsdesk.lines import fewest_steps, levels_from
from kinwordsdesk.related import word_for

MOST_BYTES = 65536


def above_answer(family, a, k):
    """kn_above. By a line of no step one is at oneself, so that's 1."""
    if not family.has_both(a, a) or k < 0 or k > MOST_STEPS:
        return [-1]
    levels = levels_from(family.parents, a)
    if k >= len(levels):
        return [0]
    return [len(levels[k])]


def common_answer(family, a, b):
    """kn_common."""
    if not family.has_both(a, b):
        return [-1]
    nearest = nearest_common(fewest_steps(family.parents, a), fewest_steps(family.parents, b))
    if nearest is None:
        return [0]
    return [len(nearest.persons), nearest.m, nearest.n, nearest.persons[0]]


def alike_answer(family, a, b):
    """kn_alike."""
    if not family.has_both(a, b):
        return [-1]
    return [0, how_alike(family.parents, a, b)]


def word_answer(family, a, b, most):
    """kn_word. Every sign of a word is one byte."""
    if not family.has_both(a, b) or most < 0 or most > MOST_BYTES:
        return [-1]
    word = word_for(family, a, b)
    return [len(word)] + [ord(sign) for sign in word[:most]]
