"""How calls are written in the list, and what is given back."""

import subprocess
import sys
import unittest

from helper import CLEAR, flat, parent, part, partner, person, persons
from kinwordsdesk.persons import answers

MANY = [CLEAR] + persons(3) + [person(3), parent(0, 1), parent(0, 0), partner(2, 1), part(1, 2), CLEAR, person(2)]


class Interface(unittest.TestCase):
    def test_one_call(self):
        self.assertEqual(answers([1]), [1, 0])

    def test_each_answer_has_its_count_before_it(self):
        self.assertEqual(
            answers(flat(MANY)),
            [1, 0, 1, 0, 1, 1, 1, 2, 1, -1, 1, 1, 1, -3, 1, 1, 1, 1, 1, 0, 1, 0],
        )

    def test_gives_back_a_list_of_whole_numbers(self):
        told = answers(flat(MANY))
        self.assertIs(type(told), list)
        self.assertEqual({type(number) for number in told}, {int})

    def test_what_is_handed_in_is_the_same_afterwards(self):
        calls = flat(MANY)
        before = list(calls)
        answers(calls)
        self.assertEqual(calls, before)

    def test_what_is_handed_in_is_never_changed_for_a_while(self):
        class Kept(list):
            def refuse(self, *given, **named):
                raise AssertionError("the list handed in was changed")

            append = extend = insert = pop = remove = reverse = sort = clear = refuse
            __setitem__ = __delitem__ = __iadd__ = __imul__ = refuse

        self.assertEqual(answers(Kept(flat(MANY))), answers(flat(MANY)))

    def test_nothing_is_kept_from_one_time_to_the_next(self):
        first = answers(flat(MANY))
        answers(flat([CLEAR] + persons(5) + [partner(0, 1), parent(2, 3)]))
        self.assertEqual(answers(flat(MANY)), first)

    def test_what_is_given_back_is_new_each_time(self):
        first = answers([1, 2, 0])
        first.append(7)
        self.assertEqual(answers([1, 2, 0]), [1, 0, 1, 0])

    def test_four_hundred_calls(self):
        told = answers([1] * 400)
        self.assertEqual(told, [1, 0] * 400)

    def test_prints_and_reads_nothing(self):
        done = subprocess.run(
            [sys.executable, "-c", f"from kinwordsdesk.persons import answers; answers({flat(MANY)})"],
            input="", capture_output=True, text=True, timeout=60, check=True,
        )
        self.assertEqual((done.stdout, done.stderr), ("", ""))


if __name__ == "__main__":
    unittest.main()
