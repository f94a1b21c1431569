"""What the tests share: calls written as rows, and their answers read back as rows."""

import subprocess
import sys

from kinwordsdesk.persons import answers

CLEAR = (1,)
LOWEST = -2147483648
HIGHEST = 2147483647
WRONG_PERSONS = (-1, -2, LOWEST, HIGHEST)


def person(sex=0):
    return (2, sex)


def parent(child, above):
    return (3, child, above)


def partner(a, b):
    return (4, a, b)


def part(a, b):
    return (5, a, b)


def above(a, k):
    return (6, a, k)


def common(a, b):
    return (7, a, b)


def alike(a, b):
    return (8, a, b)


def word(a, b, most=65536):
    return (9, a, b, most)


def persons(count):
    return [person() for _ in range(count)]


def chain(first, count):
    """Persons first to first + count - 1, told already: each has the following one as a parent."""
    return [parent(k, k + 1) for k in range(first, first + count - 1)]


def flat(rows):
    return [number for row in rows for number in row]


def split(told):
    """The answers as one list a call."""
    rows = []
    at = 0
    while at < len(told):
        count = told[at]
        row = told[at + 1:at + 1 + count]
        if count < 1 or len(row) != count:
            raise AssertionError(f"a count does not fit at place {at} of {told}")
        rows.append(row)
        at += 1 + count
    return rows


def ask_rows(rows):
    """What a list with kn_clear ahead of rows answers to rows, a list of numbers for each."""
    told = split(answers(flat([CLEAR] + list(rows))))
    if told[0] != [0] or len(told) != len(rows) + 1:
        raise AssertionError(f"not one answer a call: {told}")
    return told[1:]


def ask(rows):
    """The same, of calls that answer one number."""
    told = ask_rows(rows)
    if any(len(row) != 1 for row in told):
        raise AssertionError(f"not one number a call: {told}")
    return [row[0] for row in told]


def last(rows, count=1):
    """The answers to the last count of rows."""
    return ask(rows)[-count:]


class Tree:
    """Persons and what is told of them, with the rows for it."""

    def __init__(self):
        self.rows = []
        self.count = 0

    def born(self, *parents, sex=0):
        """A new person's number; parents are told before."""
        self.rows.append(person(sex))
        self.rows += [parent(self.count, one) for one in parents]
        self.count += 1
        return self.count - 1

    def couple(self):
        """Two to have children; they aren't told as partners."""
        return (self.born(), self.born())

    def below(self, start, steps, sex=0):
        """Who is at the lower end of a new line of so many steps; only the last has that sex."""
        for left in range(steps, 0, -1):
            start = self.born(start, sex=sex if left == 1 else 0)
        return start

    def tell(self, *rows):
        self.rows += rows

    def ask(self, *rows):
        """The answers to rows, behind all that was told; what was told must not be refused."""
        told = ask_rows(self.rows + list(rows))
        if any(row[0] < 0 for row in told[:len(self.rows)]):
            raise AssertionError(f"told in vain: {told}")
        return told[len(self.rows):]

    def above(self, a, k):
        return self.ask(above(a, k))[0]

    def common(self, a, b):
        return self.ask(common(a, b))[0]

    def alike(self, a, b):
        """The second number of kn_alike, whose first is 0."""
        row = self.ask(alike(a, b))[0]
        if len(row) != 2 or row[0] != 0:
            raise AssertionError(f"not 0 and one number: {row}")
        return row[1]

    def word(self, a, b):
        """The whole word, as a text."""
        row = self.ask(word(a, b))[0]
        if row[0] != len(row) - 1:
            raise AssertionError(f"not a whole word: {row}")
        return bytes(row[1:]).decode("ascii")


def diamonds(high):
    """Pairs of persons, 0 and 1 the lowest: both of each pair have both of the following one as parents."""
    rows = persons(2 * high + 2)
    for low in range(0, 2 * high, 2):
        for child in (low, low + 1):
            rows += [parent(child, low + 2), parent(child, low + 3)]
    return rows


def ask_apart(rows):
    """ask_rows in a process of its own, stopped after a minute, as one that walks each line would not end."""
    asked = f"from kinwordsdesk.persons import answers; print(answers({flat([CLEAR] + list(rows))}))"
    done = subprocess.run([sys.executable, "-c", asked], capture_output=True, text=True, timeout=60, check=True)
    return split([int(number) for number in done.stdout.strip("[]\n").split(", ")])[1:]
