"""The word for one person, to another: by blood, by a partner, or neither."""

from kinwordsdesk.common import is_half, nearest_common
from kinwordsdesk.lines import fewest_steps
from kinwordsdesk.words import PARTNER, blood_word


def word_by_blood(family, a, b):
    """The word for b, to a, by blood; None if they've nobody in common."""
    up_a = fewest_steps(family.parents, a)
    up_b = fewest_steps(family.parents, b)
    nearest = nearest_common(up_a, up_b)
    if nearest is None:
        return None
    half = is_half(family, nearest, up_a, up_b)
    return blood_word(nearest.m, nearest.n, half, family.sexes[b])


def word_by_partners(family, a, b):
    """The word for b, to a, where they've nobody in common."""
    as_partner = PARTNER[family.sexes[b]]
    if family.are_partners(a, b):
        return as_partner
    for partner in family.partners_of(a):
        word = word_by_blood(family, partner, b)
        if word is not None:
            return word + "-in-law"
    for partner in family.partners_of(b):
        word = word_by_blood(family, a, partner)
        if word is not None:
            return word + "'s " + as_partner
    return "not related"


def word_for(family, a, b):
    """The word for b, to a."""
    word = word_by_blood(family, a, b)
    if word is None:
        return word_by_partners(family, a, b)
    return word
