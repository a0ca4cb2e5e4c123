"""Point 7: ho_back, ho_again, ho_state; and of point 1 what a change is, and which can be taken back and done again."""

import unittest

from calling import BACK_AND_AGAIN, EVEN_RING, GREATEST, LOOKS, ODD_RING, Refusals, ask, begun, everyone, last, wish

FOUR = begun(4, EVEN_RING)
PAIRED = FOUR + [("pair", 0, 1), ("pair", 2, 3)]
# Of each kind of change, calls and another one behind them that isn't refused.
KINDS = [
    ([("start", 4)], wish(2, [0, 3, 1])),
    (FOUR, wish(0, [])),
    (PAIRED, wish(3, [0])),
    (PAIRED, wish(3, [2])),
    (PAIRED, ("swap", 0, 0, 1)),
    (FOUR, ("pair", 3, 2)),
    (PAIRED, ("part", 1)),
    (FOUR, ("break", 1, 2)),
    (FOUR + [("pair", 0, 1)], ("break", 2, 1)),
    (begun(4, {0: [2, 1], 1: [0], 2: [0, 3], 3: [2]}) + [("pair", 0, 1), ("pair", 2, 3)], ("break", 0, 2)),
    (FOUR, "all"),
    (FOUR + [("pair", 1, 2), ("pair", 0, 3)], "all"),
]
# Of each kind of change one by which nothing is other than before.
NOTHING_OTHER = [(FOUR, wish(0, [1, 3])), (PAIRED, "all"), ([("start", 0)], "all"), ([("start", 1)], wish(0, []))]
REFUSED = [("start", 8), wish(4, []), ("wish", 0, 7, [1, 2, 3, 0, 0, 0]), ("swap", 4, 0, 1), ("swap", 0, 0, 0),
           ("pair", 0, 4), ("pair", 0, 2), ("part", 4), ("break", 4, 0), ("break", 0, 2), ("would", 0, 4), ("nth", 9),
           ("best", 4), ("worst", 4), ("ever", 0, 0), ("ring", 4), ("without", 16), ("place", 0, 0), ("friends", 4),
           ("with", 4), ("look", 4)]
CHANGES_NOTHING = ["holds", "breakers", ("would", 0, 1), "good", ("nth", 1), ("best", 0), ("worst", 0), "alone",
                   ("ever", 0, 1), "rings", ("ring", 0), "odds", ("without", 3), ("place", 0, 1), ("friends", 0),
                   ("with", 0), "single", "glad", "fairest", ("look", 0), "state"]


def state(*calls):
    return last(*calls, "state")


def looks(calls):
    """All that's seen behind these calls, but how many changes there are."""
    return ask(*calls, *LOOKS[1:])[len(calls):]


def swaps(many):
    """So many changes of 0's list, each of which is seen."""
    return [("swap", 0, turn % 3, turn % 3 + 1) for turn in range(many)]


LONG_LIST = begun(7, {0: [1, 2, 3, 4]})


class Back(Refusals):
    def test_over_each_kind_of_change(self):
        for calls, change in KINDS + NOTHING_OTHER:
            past = state(*calls)[2]
            self.assertEqual(state(*calls, change)[2:], [past + 1, 0])
            self.assertEqual(last(*calls, change, "back"), [past])
            self.assertEqual(state(*calls, change, "back"), state(*calls)[:3] + [1])
            self.assertEqual(looks(calls + [change, "back"]), looks(calls))

    def test_each_of_these_is_seen(self):
        for calls, change in KINDS:
            self.assertNotEqual(looks(calls + [change]), looks(calls))
        for calls, change in NOTHING_OTHER:
            self.assertEqual(looks(calls + [change]), looks(calls))

    def test_one_behind_another(self):
        told = ask(*PAIRED, "back", ("with", 2), ("with", 0), "back", ("with", 0), "back", ("look", 3), "back", "back",
                   "back", "state")
        self.assertEqual(told[len(PAIRED):], [[5], [-6], [1, 0], [4], [-6], [3], [0] * 7, [2], [1], [0], [4, 0, 0, 6]])

    def test_none_to_take_back(self):
        for n in (0, 1, 7):
            self.refused([("start", n)], "back", -2)
        self.refused(FOUR + ["back"] * 4, "back", -2)

    def test_a_parted_pair_comes_back(self):
        told = ask(*PAIRED, wish(3, []), ("with", 2), "back", ("with", 2), ("with", 3), "again", ("with", 2))
        self.assertEqual(told[len(PAIRED):], [[2, 1], [-6], [6], [3, 0], [2, 1], [0], [-6]])


class Again(Refusals):
    def test_over_each_kind_of_change(self):
        for calls, change in KINDS + NOTHING_OTHER:
            self.assertEqual(last(*calls, change, "back", "again"), [0])
            self.assertEqual(state(*calls, change, "back", "again"), state(*calls, change))
            self.assertEqual(looks(calls + [change, "back", "again"]), looks(calls + [change]))

    def test_the_one_that_was_taken_back_last(self):
        told = ask(*PAIRED, "back", "back", "back", "again", ("look", 3), ("with", 0), "again", ("with", 0),
                   ("with", 2), "again", ("with", 2))
        self.assertEqual(told[len(PAIRED):],
                         [[5], [4], [3], [2], [2, 1, 3, 0, 0, 0, 0], [-6], [1], [1, 0], [-6], [0], [3, 0]])

    def test_to_and_fro(self):
        calls = PAIRED + ["back", "again"] * 30 + ["back"] * 6 + ["again"] * 6
        self.assertEqual(looks(calls), looks(PAIRED))
        self.assertEqual(state(*calls), state(*PAIRED))

    def test_none_to_be_done_again(self):
        for calls in ([("start", 0)], FOUR, FOUR + ["back", "again"], FOUR + ["back"] * 4 + ["again"] * 4):
            self.refused_here(calls, "again", -2)

    def test_not_behind_another_change(self):
        for calls, change in KINDS + NOTHING_OTHER:
            ahead = calls + [wish(0, []), wish(0, []), "back", "back", change]
            self.assertEqual(state(*ahead), state(*calls, change))
            self.refused_here(ahead, "again", -2)
            self.assertEqual(ask(*ahead, *LOOKS, *BACK_AND_AGAIN)[len(ahead):],
                             ask(*calls, change, *LOOKS, *BACK_AND_AGAIN)[len(calls) + 1:])

    def test_still_behind_what_is_no_change(self):
        for call in REFUSED + CHANGES_NOTHING:
            self.assertEqual(ask(*PAIRED, "back", "back", call, "again", "again", "again")[-3:], [[1], [0], [-2]])


class WhatAChangeIs(Refusals):
    def test_each_call_of_two_and_three(self):
        calls = FOUR + [("swap", 0, 0, 1), ("swap", 0, 0, 1), ("pair", 1, 2), ("part", 2), ("break", 0, 1), "all"]
        self.assertEqual([state(*calls[:many])[2] for many in range(1, 12)], list(range(11)))

    def test_no_refused_call(self):
        for call in REFUSED:
            told = ask(*PAIRED, call, "state")
            self.assertLess(told[-2][0], 0)
            self.assertEqual(told[-1], [4, 2, 6, 0])
        odd = begun(3, ODD_RING)
        for call in ("all", "fairest", "alone"):
            self.assertEqual(ask(*odd, call, "state")[-2:], [[-33], [3, 0, 3, 0]])
        self.assertEqual(ask(*PAIRED, ("pair", 0, 1), "state")[-2:], [[-16], [4, 2, 6, 0]])
        self.assertEqual(ask(*FOUR, ("part", 0), "state")[-2:], [[-6], [4, 0, 4, 0]])

    def test_none_of_the_others(self):
        for call in CHANGES_NOTHING:
            told = ask(*PAIRED, call, "state")
            self.assertGreaterEqual(told[-2][0], 0)
            self.assertEqual(told[-1], [4, 2, 6, 0])
            self.assertEqual(ask(*PAIRED, call, *LOOKS, *BACK_AND_AGAIN)[len(PAIRED) + 1:],
                             ask(*PAIRED, *LOOKS, *BACK_AND_AGAIN)[len(PAIRED):])


class TheLastTwenty(Refusals):
    def test_how_many_can_be_taken_back(self):
        for many, past in ((18, 19), (19, 20), (20, 20), (21, 20), (60, 20)):
            self.assertEqual(state(*LONG_LIST, *swaps(many)), [7, 0, past, 0])

    def test_just_twenty(self):
        calls = LONG_LIST + swaps(19)
        self.assertEqual(ask(*calls, *["back"] * 21)[len(calls):], [[left] for left in range(19, -1, -1)] + [[-2]])
        self.assertEqual(looks(calls + ["back"] * 20), looks([("start", 7)]))

    def test_more_than_twenty(self):
        calls = LONG_LIST + swaps(25)
        self.assertEqual(ask(*calls, *["back"] * 21)[len(calls):], [[left] for left in range(19, -1, -1)] + [[-2]])
        for many in range(21):
            self.assertEqual(looks(calls + ["back"] * many), looks(LONG_LIST + swaps(25 - many)))
            self.assertEqual(state(*calls, *["back"] * many), [7, 0, 20 - many, many])
        self.refused(LONG_LIST + swaps(25) + ["back"] * 20, "back", -2)

    def test_done_again_behind_that(self):
        calls = LONG_LIST + swaps(25) + ["back"] * 20
        self.assertEqual(ask(*calls, *["again"] * 21)[len(calls):], [[left] for left in range(19, -1, -1)] + [[-2]])
        for many in range(21):
            self.assertEqual(looks(calls + ["again"] * many), looks(LONG_LIST + swaps(5 + many)))
            self.assertEqual(state(*calls, *["again"] * many), [7, 0, many, 20 - many])

    def test_those_that_fell_out_stay_out(self):
        calls = LONG_LIST + swaps(25) + ["back"] * 3
        self.assertEqual(state(*calls, wish(1, [0])), [7, 0, 18, 0])
        self.assertEqual(state(*calls, wish(1, [0]), wish(0, []), wish(0, [])), [7, 0, 20, 0])
        self.assertEqual(state(*calls, *[wish(1, [0])] * 4), [7, 0, 20, 0])
        self.assertEqual(looks(calls + [wish(1, [0])] + ["back"] * 18), looks(LONG_LIST + swaps(5)))
        self.assertEqual(last(*calls, wish(1, [0]), *["back"] * 19), [-2])

    def test_another_change_behind_all_that_were_taken_back(self):
        calls = LONG_LIST + swaps(25) + ["back"] * 20 + [wish(0, [])]
        self.assertEqual(state(*calls), [7, 0, 1, 0])
        self.assertEqual(ask(*calls, "again", "back", "back", "again")[-4:], [[-2], [0], [-2], [0]])


class Start(Refusals):
    def test_there_are_no_changes_behind_it(self):
        for calls in (PAIRED, PAIRED + ["back"], PAIRED + ["back"] * 6):
            for n in (0, 4, 7):
                told = ask(*calls, ("start", n), "state", "back", "again", "state")
                self.assertEqual(told[len(calls):], [[0], [n, 0, 0, 0], [-2], [-2], [n, 0, 0, 0]])

    def test_what_was_ahead_of_it_does_not_come_back(self):
        calls = PAIRED + ["back", ("start", 4), wish(0, [2])]
        self.assertEqual(ask(*calls, "back", "back", "again", "again")[-4:], [[0], [-2], [0], [-2]])
        self.assertEqual(looks(calls), looks([("start", 4), wish(0, [2])]))

    def test_refused_it_leaves_all_changes(self):
        for n in (8, GREATEST):
            for calls in (PAIRED, PAIRED + ["back"], PAIRED + ["back"] * 6):
                self.refused(calls, ("start", n), -22)


class State(unittest.TestCase):
    def test_how_many_students(self):
        for n in range(8):
            self.assertEqual(ask(("start", n), "state"), [[0], [n, 0, 0, 0]])

    def test_how_many_pairs(self):
        calls = begun(7, everyone(7))
        told = ask(*calls, ("pair", 0, 6), "state", ("pair", 1, 5), "state", ("pair", 2, 4), "state", ("part", 6),
                   "state", "all", "state", ("break", 0, 1), "state")
        self.assertEqual(told[9:16:2], [[7, 1, 8, 0], [7, 2, 9, 0], [7, 3, 10, 0], [7, 2, 11, 0]])
        self.assertEqual(told[16:], [[3, 2, 1, 4, 3, 6, 5, 0], [7, 3, 12, 0], [-33], [7, 3, 12, 0]])

    def test_beside_back_and_again(self):
        told = ask(*PAIRED, "state", "back", "state", "back", "state", "back", "state", "again", "state")
        self.assertEqual(told[7::2], [[4, 2, 6, 0], [4, 1, 5, 1], [4, 0, 4, 2], [4, 0, 3, 3], [4, 0, 4, 2]])


if __name__ == "__main__":
    unittest.main()
