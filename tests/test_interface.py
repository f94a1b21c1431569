"""How calls are written in the list, and what is given back."""

import subprocess
import sys
import unittest

from helper import CLEAR, above, alike, ask_rows, common, flat, parent, part, partner, person, persons, word
from kinwordsdesk.persons import answers

MANY = [CLEAR] + persons(3) + [person(3), parent(0, 1), parent(0, 0), partner(2, 1), part(1, 2), CLEAR, person(2)]
ASKED = [above(0, 1), above(0, 29), common(0, 1), common(0, 2), common(0, 3), alike(0, 1), alike(0, 3),
         word(0, 1), word(1, 2, 2), word(0, 2, 0), word(0, 2, -1)]
MANY_ASKED = [CLEAR] + persons(3) + [parent(0, 1), partner(1, 2)] + ASKED + [CLEAR] + ASKED + persons(1) + ASKED


class Interface(unittest.TestCase):
    def test_one_call(self):
        self.assertEqual(answers([1]), [1, 0])

    def test_each_answer_has_its_count_before_it(self):
        self.assertEqual(
            answers(flat(MANY)),
            [1, 0, 1, 0, 1, 1, 1, 2, 1, -1, 1, 1, 1, -3, 1, 1, 1, 1, 1, 0, 1, 0],
        )

    def test_each_answer_of_more_than_one_number(self):
        told = answers(flat([CLEAR] + persons(3) + [parent(0, 1), partner(1, 2)] + ASKED))
        self.assertEqual(told[12:], [
            1, 1, 1, -1, 4, 1, 1, 0, 1, 1, 0, 1, -1, 2, 0, 2 ** 58, 1, -1,
            7, 6, *b"parent", 3, 6, *b"sp", 1, 15, 1, -1,
        ])

    def test_gives_back_a_list_of_whole_numbers(self):
        for rows in (MANY, MANY_ASKED):
            told = answers(flat(rows))
            self.assertIs(type(told), list)
            self.assertEqual({type(number) for number in told}, {int})

    def test_what_is_handed_in_is_the_same_afterwards(self):
        for rows in (MANY, MANY_ASKED):
            calls = flat(rows)
            before = list(calls)
            answers(calls)
            self.assertEqual(calls, before)

    def test_a_question_changes_nothing(self):
        told = [person(1), person(2), person(3), person(0), parent(0, 1), parent(1, 0), partner(1, 2), partner(1, 2),
                part(0, 2), parent(0, 2), parent(2, 0), part(1, 2), partner(2, 1), person(1)]
        questions = ASKED + [above(0, k) for k in range(5)] + [word(2, 0), word(0, 2), alike(0, 0)]
        between = flat([[row] + questions for row in told])
        self.assertEqual(ask_rows(between)[::len(questions) + 1], ask_rows(told))

    def test_the_same_question_again(self):
        told = persons(3) + [parent(0, 1), parent(2, 1), partner(1, 2)]
        answered = ask_rows(told + ASKED + ASKED)[len(told):]
        self.assertEqual(answered[:len(ASKED)], answered[len(ASKED):])

    def test_a_clear_in_the_middle_leaves_nothing_behind(self):
        before = persons(5) + [parent(0, 1), parent(0, 2), parent(1, 2), partner(0, 3), partner(1, 4)] + ASKED
        for after in (ASKED, persons(2) + ASKED, persons(5) + [parent(1, 0), partner(4, 0)] + ASKED):
            self.assertEqual(ask_rows(before + [CLEAR] + after)[len(before) + 1:], ask_rows(after))

    def test_what_is_handed_in_is_never_changed_for_a_while(self):
        class Kept(list):
            def refuse(self, *given, **named):
                raise AssertionError("the list handed in was changed")

            append = extend = insert = pop = remove = reverse = sort = clear = refuse
            __setitem__ = __delitem__ = __iadd__ = __imul__ = refuse

        for rows in (MANY, MANY_ASKED):
            self.assertEqual(answers(Kept(flat(rows))), answers(flat(rows)))

    def test_nothing_is_kept_from_one_time_to_the_next(self):
        for rows in (MANY, MANY_ASKED):
            first = answers(flat(rows))
            answers(flat([CLEAR] + persons(5) + [partner(0, 1), parent(2, 3), parent(0, 2)] + ASKED))
            self.assertEqual(answers(flat(rows)), first)

    def test_what_is_given_back_is_new_each_time(self):
        first = answers([1, 2, 0])
        first.append(7)
        self.assertEqual(answers([1, 2, 0]), [1, 0, 1, 0])

    def test_four_hundred_calls(self):
        told = answers([1] * 400)
        self.assertEqual(told, [1, 0] * 400)

    def test_prints_and_reads_nothing(self):
        done = subprocess.run(
            [sys.executable, "-c", f"from kinwordsdesk.persons import answers; answers({flat(MANY + MANY_ASKED)})"],
            input="", capture_output=True, text=True, timeout=60, check=True,
        )
        self.assertEqual((done.stdout, done.stderr), ("", ""))


if __name__ == "__main__":
    unittest.main()
