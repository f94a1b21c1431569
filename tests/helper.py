"""What the tests share: calls written as rows, and their answers read back as rows."""

from kinwordsdesk.persons import answers

CLEAR = (1,)
LOWEST = -2147483648
HIGHEST = 2147483647
WRONG_PERSONS = (-1, -2, LOWEST, HIGHEST)


def person(sex=0):
    return (2, sex)


def parent(child, above):
    return (3, child, above)


def partner(a, b):
    return (4, a, b)


def part(a, b):
    return (5, a, b)


def persons(count):
    return [person() for _ in range(count)]


def chain(first, count):
    """Persons first to first + count - 1, told already: each has the following one as a parent."""
    return [parent(k, k + 1) for k in range(first, first + count - 1)]


def flat(rows):
    return [number for row in rows for number in row]


def split(told):
    """The answers as one list a call."""
    rows = []
    at = 0
    while at < len(told):
        count = told[at]
        row = told[at + 1:at + 1 + count]
        if count < 1 or len(row) != count:
            raise AssertionError(f"a count does not fit at place {at} of {told}")
        rows.append(row)
        at += 1 + count
    return rows


def ask(rows):
    """What a list with kn_clear ahead of rows answers to rows, of calls that answer one number."""
    told = split(answers(flat([CLEAR] + list(rows))))
    if told[0] != [0] or len(told) != len(rows) + 1 or any(len(row) != 1 for row in told):
        raise AssertionError(f"not one number a call: {told}")
    return [row[0] for row in told[1:]]


def last(rows, count=1):
    """The answers to the last count of rows."""
    return ask(rows)[-count:]
