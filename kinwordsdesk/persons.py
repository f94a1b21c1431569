"""The calls on persons, read from one list of whole numbers."""

from kinwordsdesk.asked import above_answer, alike_answer, common_answer, word_answer
from kinwordsdesk.family import Family

KN_CLEAR = 1
KN_PERSON = 2
KN_PARENT = 3
KN_PARTNER = 4
KN_PART = 5
KN_ABOVE = 6
KN_COMMON = 7
KN_ALIKE = 8

# How many whole numbers stand behind each call's own number.
WIDTHS = {1: 0, 2: 1, 3: 2, 4: 2, 5: 2, 6: 2, 7: 2, 8: 2, 9: 3}


def told_answer(family, call, numbers):
    """The one number that a call answers which tells something."""
    if call == KN_CLEAR:
        return family.forget_all()
    if call == KN_PERSON:
        return family.add_person(numbers[0])
    if call == KN_PARENT:
        return family.add_parent(numbers[0], numbers[1])
    if call == KN_PARTNER:
        return family.add_partners(numbers[0], numbers[1])
    return family.part_partners(numbers[0], numbers[1])


def answer_of(family, call, numbers):
    """The numbers that one call answers."""
    if call <= KN_PART:
        return [told_answer(family, call, numbers)]
    if call == KN_ABOVE:
        return above_answer(family, numbers[0], numbers[1])
    if call == KN_COMMON:
        return common_answer(family, numbers[0], numbers[1])
    if call == KN_ALIKE:
        return alike_answer(family, numbers[0], numbers[1])
    # kn_word alone is left: WIDTHS has let no other call come here.
    return word_answer(family, numbers[0], numbers[1], numbers[2])


def answers(calls):
    """For each call, in order: how many numbers are answered, then these."""
    family = Family()
    told = []
    at = 0
    while at < len(calls):
        call = calls[at]
        behind = at + 1 + WIDTHS[call]
        answer = answer_of(family, call, calls[at + 1:behind])
        told.append(len(answer))
        told.extend(answer)
        at = behind
    return told
