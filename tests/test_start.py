"""Point 1: ho_start, and what a change is."""

import unittest

from calling import EVEN_RING, GREATEST, LOOKS, ask, begun, last, wish
from pairsthathold.changing import ho_all, ho_break, ho_pair, ho_part, ho_start, ho_swap, ho_wish
from pairsthathold.holding import ho_alone, ho_best, ho_breakers, ho_good, ho_holds, ho_nth, ho_worst, ho_would
from pairsthathold.students import Students


class Start(unittest.TestCase):
    def test_up_to_seven(self):
        for n in range(8):
            self.assertEqual(ask(("start", n)), [[0]])

    def test_above_seven(self):
        for n in (8, 9, 2 ** 31, GREATEST):
            self.assertEqual(ask(("start", n)), [[-22]])

    def test_a_refused_one_ahead_of_another(self):
        self.assertEqual(ask(("start", 8), ("start", GREATEST), ("start", 1), "good"), [[-22], [-22], [0], [1]])

    def test_so_many_are_there(self):
        for n in range(8):
            told = ask(("start", n), *[("best", a) for a in range(8)])
            self.assertEqual(told, [[0]] + [[a] if a < n else [-2] for a in range(8)])

    def test_nobody_is_on_a_list_or_paired(self):
        told = ask(("start", 7), *[("would", a, b) for a in range(7) for b in range(7)])
        self.assertEqual(told, [[0]] * 50)
        told = ask(("start", 7), *[("part", a) for a in range(7)])
        self.assertEqual(told, [[0]] + [[-6]] * 7)
        self.assertEqual(ask(("start", 7), *[wish(a, []) for a in range(7)]), [[0]] + [[0, 0]] * 7)

    def test_nobody_there(self):
        nothing = [0] * 8
        self.assertEqual(
            ask(("start", 0), "good", "holds", "breakers", "alone", "all", ("nth", 0), ("nth", 1)),
            [[0], [1], [1], [0, 0, 0], [0, 0], nothing, nothing, [-2]])
        missing = [wish(0, []), ("swap", 0, 0, 1), ("pair", 0, 0), ("part", 0), ("break", 0, 0), ("would", 0, 0),
                   ("best", 0), ("worst", 0)]
        self.assertEqual(ask(("start", 0), *missing), [[0]] + [[-2]] * 8)

    def test_again(self):
        calls = begun(4, EVEN_RING) + [("pair", 0, 1), ("start", 4)]
        self.assertEqual(ask(*calls, *LOOKS)[len(calls):], ask(("start", 4), *LOOKS)[1:])
        self.assertEqual(last(*calls, ("part", 0)), [-6])
        self.assertEqual(last(*calls, wish(0, [1])), [0, 0])

    def test_again_with_fewer_and_with_more(self):
        calls = begun(4, EVEN_RING) + ["all"]
        self.assertEqual(ask(*calls, ("start", 2), ("best", 1), ("best", 2))[-3:], [[0], [1], [-2]])
        self.assertEqual(ask(*calls, ("start", 7), ("best", 6), ("part", 0))[-3:], [[0], [6], [-6]])

    def test_refused_again_leaves_all_as_it_was(self):
        calls = begun(4, EVEN_RING) + [("pair", 1, 2)]
        refused = ask(*calls, ("start", 8), *LOOKS, ("part", 1))
        self.assertEqual(refused[len(calls)], [-22])
        self.assertEqual(refused[len(calls) + 1:], ask(*calls, *LOOKS, ("part", 1))[len(calls):])


def seen(students):
    return (students.lists, students.mates)


class Changes(unittest.TestCase):
    """No call of points 1 to 4 tells of changes that were taken back, so these look at what is kept."""

    def setUp(self):
        self.students = Students()
        ho_start(self.students, 4)
        for a, wished in EVEN_RING.items():
            ho_wish(self.students, a, 2, wished + [0, 0, 0, 0])

    def test_each_call_of_two_and_three_is_one(self):
        self.assertEqual(len(self.students.past), 4)
        ho_swap(self.students, 0, 0, 1)
        ho_swap(self.students, 0, 0, 1)
        ho_pair(self.students, 1, 2)
        ho_part(self.students, 2)
        ho_break(self.students, 0, 1)
        ho_all(self.students)
        self.assertEqual(len(self.students.past), 10)

    def test_one_by_which_nothing_is_other_counts_too(self):
        ho_all(self.students)
        ho_all(self.students)
        ho_wish(self.students, 0, 2, [1, 3, 0, 0, 0, 0])
        self.assertEqual(len(self.students.past), 7)

    def test_refused_ones_are_none(self):
        ho_wish(self.students, 0, 7, [0] * 6)
        ho_swap(self.students, 0, 0, 0)
        ho_pair(self.students, 0, 2)
        ho_part(self.students, 0)
        ho_break(self.students, 0, 2)
        self.assertEqual(ho_start(self.students, 8), [-22])
        self.assertEqual(len(self.students.past), 4)
        ho_wish(self.students, 3, 0, [0] * 6)
        for a, wished in {0: [1, 2], 1: [2, 0], 2: [0, 1]}.items():
            ho_wish(self.students, a, 2, wished + [0] * 4)
        self.assertEqual(ho_all(self.students), [-33])
        self.assertEqual(len(self.students.past), 8)

    def test_those_of_four_are_none(self):
        before = seen(self.students)
        ho_holds(self.students)
        ho_breakers(self.students)
        ho_would(self.students, 0, 1)
        ho_good(self.students)
        ho_nth(self.students, 1)
        ho_best(self.students, 0)
        ho_worst(self.students, 0)
        ho_alone(self.students)
        self.assertEqual(len(self.students.past), 4)
        self.assertEqual(seen(self.students), before)

    def test_the_last_twenty_can_be_taken_back(self):
        were = []
        for turn in range(25):
            were.append(seen(self.students))
            ho_swap(self.students, turn % 4, 0, 1)
        self.assertEqual(len(self.students.past), 20)
        for before in reversed(were[5:]):
            self.students.take_back()
            self.assertEqual(seen(self.students), before)
        self.assertEqual(self.students.past, [])
        for after in were[6:]:
            self.students.do_again()
            self.assertEqual(seen(self.students), after)
        self.assertEqual((len(self.students.past), len(self.students.undone)), (19, 1))

    def test_another_change_ends_what_can_be_done_again(self):
        ho_pair(self.students, 0, 1)
        self.students.take_back()
        self.assertEqual(len(self.students.undone), 1)
        ho_good(self.students)
        ho_pair(self.students, 0, 2)
        self.assertEqual(len(self.students.undone), 1)
        ho_all(self.students)
        self.assertEqual(self.students.undone, [])

    def test_start_leaves_no_changes(self):
        self.students.take_back()
        ho_start(self.students, 4)
        self.assertEqual((self.students.past, self.students.undone), ([], []))


if __name__ == "__main__":
    unittest.main()
