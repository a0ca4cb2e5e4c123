"""How calls are written and answers given back, and what a run leaves behind."""

import subprocess
import sys
import unittest

from calling import EVEN_RING, GREATEST, ask, begun, flat
from pairsthathold.house import answers


class TheForm(unittest.TestCase):
    def test_each_answer_has_its_count_before_it(self):
        calls = [0, 2, 1, 0, 1, 6, 1, 0, 0, 0, 0, 0, 1, 1, 1, 6, 0, 9, 9, 9, 9, 9, 3, 0, 1, 3, 0, 1, 6, 8]
        told = [1, 0, 2, 0, 0, 2, 0, 0, 1, 1, 1, -16, 8, 1, 2, 1, 0, 0, 0, 0, 0, 3, 0, 0, 0]
        self.assertEqual(answers(calls), told)

    def test_one_call_alone(self):
        self.assertEqual(answers([0, 0]), [1, 0])
        self.assertEqual(answers([0, GREATEST]), [1, -22])

    def test_how_many_numbers_each_call_answers(self):
        calls = begun(4, EVEN_RING) + [
            ("swap", 0, 0, 1), ("swap", 0, 0, 1), ("pair", 0, 1), ("part", 0), ("break", 0, 1), "all", "holds",
            "breakers", ("would", 0, 1), "good", ("nth", 0), ("best", 0), ("worst", 0), "alone"]
        self.assertEqual([len(told) for told in ask(*calls)],
                         [1, 2, 2, 2, 2, 2, 2, 1, 1, 2, 8, 1, 3, 1, 1, 8, 1, 1, 2])

    def test_answers_are_whole_numbers_and_no_truth_values(self):
        calls = begun(4, EVEN_RING) + ["holds", ("would", 0, 1), ("would", 0, 0), "breakers", "alone", "all", "holds"]
        for number in answers(flat(calls)):
            self.assertIs(type(number), int)

    def test_a_thousand_calls(self):
        calls = flat(begun(7, {a: [b for b in range(7) if b != a] for a in range(7)})) + [10] * 992
        told = answers(calls)
        self.assertEqual(told[-2:], [1, 1])
        self.assertEqual(len(told), 2 + 7 * 3 + 992 * 2)

    def test_ten_thousand_numbers(self):
        calls = [0, 7] + [1, 0, 6, 6, 1, 2, 3, 4, 5, 6] * 999
        self.assertEqual(len(calls), 9992)
        self.assertEqual(answers(calls), [1, 0] + [2, 0, 0] + [2, 6, 0] * 998)


class Watched(list):
    """A list that can't be changed, not for a while either."""

    def refuse(self, *given, **named):
        raise AssertionError("what is handed in was changed")

    __setitem__ = __delitem__ = __iadd__ = __imul__ = refuse
    append = extend = insert = pop = remove = clear = sort = reverse = refuse


class WhatIsLeftBehind(unittest.TestCase):
    CALLS = begun(4, EVEN_RING) + [("pair", 0, 1), ("swap", 2, 0, 1), ("break", 1, 2), ("part", 1), "all", "good"]

    def test_the_list_handed_in_is_as_it_was(self):
        calls = flat(self.CALLS)
        before = list(calls)
        answers(calls)
        self.assertEqual(calls, before)

    def test_the_list_handed_in_is_never_changed(self):
        answers(Watched(flat(self.CALLS)))

    def test_two_runs_behind_one_another_answer_the_same(self):
        calls = flat(self.CALLS)
        first = answers(calls)
        answers([0, 7, 1, 0, 1, 6, 1, 0, 0, 0, 0, 0])
        self.assertEqual(answers(calls), first)

    def test_what_was_given_back_is_not_kept(self):
        calls = flat(self.CALLS)
        first = answers(calls)
        kept = list(first)
        first.clear()
        self.assertEqual(answers(calls), kept)

    def test_nothing_is_printed(self):
        script = "from pairsthathold.house import answers; answers([0, 3, 10, 6, 14])"
        ran = subprocess.run([sys.executable, "-c", script], capture_output=True, check=True)
        self.assertEqual(ran.stdout + ran.stderr, b"")


if __name__ == "__main__":
    unittest.main()
