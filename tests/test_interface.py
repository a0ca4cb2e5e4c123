"""How calls are written and answers given back, and what a run leaves behind."""

import subprocess
import sys
import time
import unittest

from calling import EVEN_RING, GREATEST, NAMES, ODD_RING, apart, ask, begun, everyone, flat, wish
from pairsthathold.house import answers

# Each kind of call, of which none is refused behind these four students' lists.
EACH = begun(4, EVEN_RING) + [
    ("swap", 0, 0, 1), ("swap", 0, 0, 1), ("pair", 0, 1), ("part", 0), ("break", 0, 1), "all", "holds", "breakers",
    ("would", 0, 1), "good", ("nth", 0), ("best", 0), ("worst", 0), "alone", ("ever", 0, 1), "rings", ("ring", 0),
    "odds", ("without", 1), ("place", 0, 1), ("friends", 0), ("with", 0), "single", "glad", "fairest", ("look", 0),
    "back", "again", "state"]
NUMBERS_ANSWERED = {"wish": 2, "swap": 2, "break": 2, "all": 8, "breakers": 3, "nth": 8, "alone": 2, "rings": 8,
                    "ring": 8, "odds": 2, "without": 2, "friends": 2, "with": 2, "single": 2, "glad": 2, "fairest": 9,
                    "look": 7, "state": 4}
# Seven lists with six others each, for which it takes long to find the rings told.
LONG_SEARCH = {0: [6, 5, 3, 1, 4, 2], 1: [5, 3, 0, 2, 4, 6], 2: [5, 1, 0, 4, 3, 6], 3: [4, 5, 2, 1, 6, 0],
               4: [1, 0, 2, 3, 5, 6], 5: [4, 1, 2, 3, 0, 6], 6: [5, 1, 4, 2, 3, 0]}
REASONABLE_SECONDS = 20


def name_of(call):
    return call if isinstance(call, str) else call[0]


class TheForm(unittest.TestCase):
    def test_each_answer_has_its_count_before_it(self):
        calls = [0, 2, 1, 0, 1, 6, 1, 0, 0, 0, 0, 0, 1, 1, 1, 6, 0, 9, 9, 9, 9, 9, 3, 0, 1, 3, 0, 1, 6, 8]
        told = [1, 0, 2, 0, 0, 2, 0, 0, 1, 1, 1, -16, 8, 1, 2, 1, 0, 0, 0, 0, 0, 3, 0, 0, 0]
        self.assertEqual(answers(calls), told)

    def test_one_call_alone(self):
        self.assertEqual(answers([0, 0]), [1, 0])
        self.assertEqual(answers([0, GREATEST]), [1, -22])

    def test_how_many_numbers_each_call_answers(self):
        self.assertEqual({name_of(call) for call in EACH}, set(NAMES))
        for call, told in zip(EACH, ask(*EACH), strict=True):
            self.assertGreaterEqual(told[0], 0, call)
            self.assertEqual(len(told), NUMBERS_ANSWERED.get(name_of(call), 1), call)

    def test_a_refusal_is_its_number_alone(self):
        none_holds = begun(3, ODD_RING)
        refused = [("start", 8), wish(3, []), ("swap", 0, 0, 0), ("pair", 0, 3), ("part", 0), ("break", 0, 3), "all",
                   ("would", 3, 0), ("nth", 0), ("best", 0), ("worst", 0), "alone", ("ever", 0, 0), ("ring", 3),
                   ("without", 8), ("place", 0, 0), ("friends", 3), ("with", 0), "fairest", ("look", 3), "again"]
        told = ask(*none_holds, *refused)[len(none_holds):]
        self.assertEqual([numbers[0] for numbers in told],
                         [-22, -2, -22, -2, -6, -2, -33, -2, -2, -33, -33, -33, -22, -2, -22, -6, -2, -6, -33, -2, -2])
        self.assertEqual({len(numbers) for numbers in told}, {1})
        self.assertEqual(ask(("start", 3), "back"), [[0], [-2]])

    def test_answers_are_whole_numbers_and_no_truth_values(self):
        for calls in (EACH, begun(4, ODD_RING) + ["holds", ("without", 0), ("would", 0, 0), "odds", "rings", "back"]):
            for number in answers(flat(calls)):
                self.assertIs(type(number), int)

    def test_a_thousand_calls(self):
        calls = flat(begun(7, everyone(7))) + [10] * 992
        told = answers(calls)
        self.assertEqual(told[-2:], [1, 1])
        self.assertEqual(len(told), 2 + 7 * 3 + 992 * 2)

    def test_ten_thousand_numbers(self):
        calls = [0, 7] + [1, 0, 6, 6, 1, 2, 3, 4, 5, 6] * 999
        self.assertEqual(len(calls), 9992)
        self.assertEqual(answers(calls), [1, 0] + [2, 0, 0] + [2, 6, 0] * 998)


class ReasonableTime(unittest.TestCase):
    def in_time(self, calls):
        """A thousand calls are answered so, these behind those by which seven have lists that take long."""
        numbers = flat(begun(7, LONG_SEARCH) + calls)
        self.assertLessEqual(len(numbers), 10000)
        begin = time.perf_counter()
        told = answers(numbers)
        self.assertLess(time.perf_counter() - begin, REASONABLE_SECONDS, calls[0])
        self.assertEqual(len(apart(told)), 1000)

    def test_each_call_a_thousand_times(self):
        calls = [("start", 7), ("wish", 6, 6, [0, 1, 2, 3, 4, 5]), ("swap", 6, 0, 5), ("pair", 0, 6), ("part", 0),
                 ("break", 0, 6), "all", "holds", "breakers", ("would", 0, 6), "good", ("nth", 0), ("best", 6),
                 ("worst", 6), "alone", ("ever", 0, 6), "rings", ("ring", 6), "odds", ("without", 0), ("place", 0, 6),
                 ("friends", 6), ("with", 0), "single", "glad", "fairest", ("look", 6), "back", "again", "state"]
        self.assertEqual([name_of(call) for call in calls], NAMES)
        for call in calls:
            self.in_time([call] * 992)

    def test_all_ways_of_being_away(self):
        self.in_time([("without", turn % 128) for turn in range(992)])

    def test_rings_of_ever_other_lists(self):
        self.in_time([call for turn in range(496)
                      for call in (("swap", turn % 7, turn % 6, (turn + 1) % 6), "rings")])


class Watched(list):
    """A list that can't be changed, not for a while either."""

    def refuse(self, *given, **named):
        raise AssertionError("what is handed in was changed")

    __setitem__ = __delitem__ = __iadd__ = __imul__ = refuse
    append = extend = insert = pop = remove = clear = sort = reverse = refuse


class WhatIsLeftBehind(unittest.TestCase):
    CALLS = EACH + [("swap", 2, 0, 1), ("break", 1, 2), "back", "back", "again", wish(0, [2, 3, 1]), "fairest"]

    def test_the_list_handed_in_is_as_it_was(self):
        calls = flat(self.CALLS)
        before = list(calls)
        answers(calls)
        self.assertEqual(calls, before)

    def test_the_list_handed_in_is_never_changed(self):
        answers(Watched(flat(self.CALLS)))

    def test_two_runs_behind_one_another_answer_the_same(self):
        calls = flat(self.CALLS)
        first = answers(calls)
        answers([0, 7, 1, 0, 1, 6, 1, 0, 0, 0, 0, 0])
        self.assertEqual(answers(calls), first)

    def test_what_was_given_back_is_not_kept(self):
        calls = flat(self.CALLS)
        first = answers(calls)
        kept = list(first)
        first.clear()
        self.assertEqual(answers(calls), kept)

    def test_nothing_is_printed(self):
        script = "from pairsthathold.house import answers; answers([0, 3, 10, 6, 14])"
        ran = subprocess.run([sys.executable, "-c", script], capture_output=True, check=True)
        self.assertEqual(ran.stdout + ran.stderr, b"")


if __name__ == "__main__":
    unittest.main()
