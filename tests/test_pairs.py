"""Point 3: ho_pair, ho_part, ho_break, ho_all."""

import unittest

from calling import EVEN_RING, GREATEST, ODD_RING, Refusals, ask, begun, everyone, last, wish

FOUR = begun(4, EVEN_RING)


class Pairs(Refusals):
    def paired(self, calls, mates):
        """With whom each one is after these calls, -6 where they're alone."""
        for a, b in enumerate(mates):
            self.assertEqual(last(*calls, ("part", a)), [b])


class Pair(Pairs):
    def test_how_many_pairs_there_are(self):
        calls = begun(7, everyone(7)) + [("pair", 5, 2), ("pair", 0, 6), ("pair", 3, 1)]
        self.assertEqual(ask(*calls)[-3:], [[1], [2], [3]])
        self.paired(calls, [6, 3, 5, 1, -6, 2, 0])

    def test_there_is_none(self):
        for a in (4, 7, GREATEST):
            self.refused(FOUR, ("pair", a, 0), -2)
            self.refused(FOUR, ("pair", 0, a), -2)
            self.refused(FOUR, ("pair", a, a), -2)

    def test_they_would_not_share(self):
        self.refused(FOUR, ("pair", 0, 2), -33)
        self.refused(begun(2, {0: [1]}), ("pair", 0, 1), -33)
        self.refused(begun(2, {0: [1]}), ("pair", 1, 0), -33)

    def test_nobody_shares_with_themselves(self):
        self.refused(FOUR, ("pair", 1, 1), -33)
        self.refused(FOUR + [("pair", 0, 1)], ("pair", 1, 1), -33)

    def test_one_of_them_is_paired(self):
        calls = FOUR + [("pair", 0, 1)]
        for a, b in ((0, 1), (1, 0), (1, 2), (2, 1), (0, 3), (3, 0)):
            self.refused(calls, ("pair", a, b), -16)

    def test_of_two_refusals_the_one_told_first(self):
        self.refused(FOUR + [("pair", 0, 1)], ("pair", 0, 2), -33)
        self.refused(FOUR + [("pair", 0, 1)], ("pair", 0, 4), -2)
        self.refused(FOUR + [("pair", 0, 1)], ("pair", 4, 0), -2)


class Part(Pairs):
    def test_with_whom_it_was(self):
        calls = FOUR + [("pair", 0, 1), ("pair", 3, 2)]
        self.assertEqual(ask(*calls, ("part", 0), ("part", 3))[-2:], [[1], [2]])
        self.paired(calls + [("part", 1)], [-6, -6, 3, 2])

    def test_both_can_be_paired_again(self):
        self.assertEqual(ask(*FOUR, ("pair", 0, 1), ("part", 1), ("pair", 0, 3), ("pair", 1, 2))[-3:], [[0], [1], [2]])

    def test_alone(self):
        self.refused(FOUR, ("part", 0), -6)
        self.refused(FOUR + [("pair", 0, 1)], ("part", 2), -6)
        self.refused(FOUR + [("pair", 0, 1), ("part", 0)], ("part", 1), -6)

    def test_there_is_none(self):
        for a in (4, 7, GREATEST):
            self.refused(FOUR, ("part", a), -2)


class Break(Pairs):
    def test_both_were_alone(self):
        calls = FOUR + [("break", 0, 1)]
        # 1 would rather have 2, 2 and 3 would rather have each other than be alone; 3 is second for 0.
        self.assertEqual(last(*calls), [1, 2])
        self.paired(calls, [1, 0, -6, -6])

    def test_one_had_somebody(self):
        for two in ((1, 2), (2, 1)):
            calls = FOUR + [("pair", 0, 1), ("break", *two)]
            self.assertEqual(last(*calls), [1, 2])
            self.paired(calls, [-6, 2, 1, -6])

    def test_both_had_somebody(self):
        lists = {0: [2, 1], 1: [0], 2: [0, 3], 3: [2]}
        for two in ((0, 2), (2, 0)):
            calls = begun(4, lists) + [("pair", 0, 1), ("pair", 2, 3), ("break", *two)]
            self.assertEqual(last(*calls), [1, 0])
            self.paired(calls, [2, -6, 0, -6])

    def test_other_pairs_stay(self):
        calls = begun(7, everyone(7)) + [("pair", 2, 5), ("pair", 1, 3), ("pair", 0, 6), ("break", 0, 1)]
        # Any two of 3, 4, 6 would, who are alone, and 2 would rather have 3 or 4 than 5.
        self.assertEqual(last(*calls), [2, 5])
        self.paired(calls, [1, 0, 5, -6, -6, 2, -6])

    def test_they_would_not_break_it(self):
        calls = FOUR + [("pair", 0, 1), ("pair", 2, 3)]
        self.refused(calls, ("break", 1, 2), -33)
        self.refused(calls, ("break", 0, 3), -33)
        self.refused(FOUR + [("pair", 1, 2)], ("break", 0, 1), -33)

    def test_they_would_not_share(self):
        self.refused(FOUR, ("break", 0, 2), -33)
        self.refused(begun(2, {0: [1]}), ("break", 0, 1), -33)
        self.refused(begun(2, {0: [1]}), ("break", 1, 0), -33)

    def test_they_have_each_other(self):
        self.refused(FOUR + [("pair", 0, 3)], ("break", 0, 3), -33)
        self.refused(FOUR + [("pair", 0, 3)], ("break", 3, 0), -33)

    def test_themselves(self):
        self.refused(FOUR, ("break", 1, 1), -33)
        self.refused(FOUR + [("pair", 0, 1)], ("break", 1, 1), -33)

    def test_there_is_none(self):
        for a in (4, 7, GREATEST):
            self.refused(FOUR, ("break", a, 0), -2)
            self.refused(FOUR, ("break", 0, a), -2)
            self.refused(FOUR, ("break", a, a), -2)


class All(Pairs):
    def test_the_first_that_holds(self):
        self.assertEqual(last(*FOUR, "all"), [2, 2, 1, 4, 3, 0, 0, 0])
        self.paired(FOUR + ["all"], [1, 0, 3, 2])

    def test_whoever_was_with_whom(self):
        calls = FOUR + [("pair", 1, 2), ("pair", 0, 3), "all"]
        self.assertEqual(last(*calls), [2, 2, 1, 4, 3, 0, 0, 0])
        self.paired(calls, [1, 0, 3, 2])

    def test_some_are_alone(self):
        lists = {1: [4, 0], 4: [2, 1], 2: [3], 0: [1]}
        calls = begun(6, lists) + [("pair", 0, 1), "all"]
        self.assertEqual(last(*calls), [1, 0, 5, 0, 0, 2, 0, 0])
        self.paired(calls, [-6, 4, -6, -6, 1, -6])

    def test_all_are_alone(self):
        self.assertEqual(last(("start", 7), "all"), [0] * 8)

    def test_seven(self):
        calls = begun(7, everyone(7)) + ["all"]
        self.assertEqual(last(*calls), [3, 2, 1, 4, 3, 6, 5, 0])
        self.paired(calls, [1, 0, 3, 2, 5, 4, -6])

    def test_none_holds(self):
        self.refused(begun(3, ODD_RING), "all", -33)
        self.refused(begun(3, ODD_RING) + [("pair", 0, 2)], "all", -33)
        self.refused(begun(7, {**ODD_RING, 4: [5], 5: [4]}) + [("pair", 4, 5)], "all", -33)

    def test_it_holds_then(self):
        calls = FOUR + [("pair", 0, 1), "all", "holds", "breakers"]
        self.assertEqual(ask(*calls)[-2:], [[1], [0, 0, 0]])

    def test_with_another_list_another_one_is_first(self):
        self.assertEqual(last(*FOUR, wish(0, [3]), "all"), [2, 4, 3, 2, 1, 0, 0, 0])


if __name__ == "__main__":
    unittest.main()
