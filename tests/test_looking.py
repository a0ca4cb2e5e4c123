"""Point 6: ho_place, ho_friends, ho_with, ho_single, ho_glad, ho_look."""

import unittest

from calling import EVEN_RING, GREATEST, ODD_RING, Refusals, ask, begun, everyone, last, wish

FOUR = begun(4, EVEN_RING)
# 0 would share with 3 and 6 alone: 1 has nobody on their list, 5 has others, and 0 doesn't have 2 on theirs.
SOME_SHARE = begun(7, {0: [6, 1, 5, 3], 3: [4, 0], 6: [0], 5: [1, 2], 2: [0]})
NOT_THERE = (4, 6, 7, 2 ** 31, GREATEST)


class Place(Refusals):
    def test_at_which(self):
        calls = begun(7, {0: [6, 2, 5, 1, 4, 3], 3: [0]})
        self.assertEqual([last(*calls, ("place", 0, b)) for b in range(1, 7)], [[3], [1], [5], [4], [2], [0]])
        self.assertEqual(last(*calls, ("place", 3, 0)), [0])

    def test_they_need_not_share(self):
        self.assertEqual(last(*begun(2, {0: [1]}), ("place", 0, 1)), [0])

    def test_behind_changes_of_the_list(self):
        told = ask(*FOUR, ("swap", 0, 0, 1), ("place", 0, 1), wish(0, [2, 3, 1]), ("place", 0, 1), ("place", 0, 2))
        self.assertEqual([told[6], told[8], told[9]], [[1], [2], [0]])

    def test_not_on_the_list(self):
        self.refused(FOUR, ("place", 0, 2), -6)
        self.refused(begun(2, {0: [1]}), ("place", 1, 0), -6)
        self.refused([("start", 7)], ("place", 6, 0), -6)

    def test_themselves(self):
        for a in range(4):
            self.refused(FOUR, ("place", a, a), -6)
        self.refused([("start", 1)], ("place", 0, 0), -6)

    def test_there_is_none(self):
        for a in NOT_THERE:
            self.refused(FOUR, ("place", a, 0), -2)
            # Who isn't there is on nobody's list either: that's told behind.
            self.refused(FOUR, ("place", 0, a), -2)
            self.refused(FOUR, ("place", a, a), -2)
        self.refused([("start", 0)], ("place", 0, 0), -2)


class Friends(Refusals):
    def test_who_would_share(self):
        self.assertEqual(last(*SOME_SHARE, ("friends", 0)), [2, 0b1001000])
        self.assertEqual(last(*SOME_SHARE, ("friends", 6)), [1, 1])
        self.assertEqual(last(*FOUR, ("friends", 1)), [2, 0b101])

    def test_nobody(self):
        for a in (1, 2, 4, 5):
            self.assertEqual(last(*SOME_SHARE, ("friends", a)), [0, 0])
        self.assertEqual(last(("start", 1), ("friends", 0)), [0, 0])

    def test_all_others(self):
        for a in range(7):
            self.assertEqual(last(*begun(7, everyone(7)), ("friends", a)), [6, 127 - 2 ** a])

    def test_whoever_is_with_whom(self):
        self.assertEqual(last(*FOUR, ("pair", 0, 1), ("friends", 0)), [2, 0b1010])

    def test_there_is_none(self):
        for a in NOT_THERE:
            self.refused(FOUR, ("friends", a), -2)
        self.refused([("start", 0)], ("friends", 0), -2)


class With(Refusals):
    def test_with_whom_and_at_which_place(self):
        told = ask(*FOUR, ("pair", 0, 1), ("pair", 3, 2), *[("with", a) for a in range(4)])
        self.assertEqual(told[-4:], [[1, 0], [0, 1], [3, 0], [2, 1]])

    def test_the_last_of_six(self):
        calls = begun(7, everyone(7)) + [("pair", 6, 0)]
        self.assertEqual(ask(*calls, ("with", 0), ("with", 6))[-2:], [[6, 5], [0, 0]])

    def test_another_list_has_another_place(self):
        told = ask(*FOUR, ("pair", 0, 1), ("swap", 0, 0, 1), ("with", 0), wish(0, [2, 3, 1]), ("with", 0))
        self.assertEqual([told[-3], told[-1]], [[1, 1], [1, 2]])

    def test_alone(self):
        self.refused(FOUR, ("with", 0), -6)
        self.refused(FOUR + [("pair", 0, 1)], ("with", 2), -6)
        self.refused(FOUR + [("pair", 0, 1), ("part", 0)], ("with", 1), -6)
        self.refused([("start", 1)], ("with", 0), -6)

    def test_there_is_none(self):
        for a in NOT_THERE:
            self.refused(FOUR, ("with", a), -2)
        self.refused([("start", 0)], ("with", 0), -2)


class Single(unittest.TestCase):
    def test_all(self):
        for n in range(8):
            self.assertEqual(last(("start", n), "single"), [n, 2 ** n - 1])

    def test_some(self):
        calls = begun(7, everyone(7))
        told = ask(*calls, ("pair", 0, 6), "single", ("pair", 2, 1), "single", ("part", 0), "single")
        self.assertEqual([told[9], told[11], told[13]], [[5, 0b0111110], [3, 0b0111000], [5, 0b1111001]])

    def test_nobody(self):
        self.assertEqual(last(*FOUR, "all", "single"), [0, 0])

    def test_as_they_are_not_as_it_would_hold(self):
        self.assertEqual(last(*begun(3, {0: [1], 1: [0, 2], 2: [1]}), ("pair", 1, 2), "single"), [1, 1])
        self.assertEqual(last(*begun(3, ODD_RING), ("pair", 0, 1), "single"), [1, 4])


class Glad(unittest.TestCase):
    def test_nobody_there_or_on_a_list(self):
        for n in (0, 1, 7):
            self.assertEqual(last(("start", n), "glad"), [0, 0])

    def test_who_is_alone_has_as_many_as_are_on_the_list(self):
        self.assertEqual(last(*FOUR, "glad"), [8, 2])
        self.assertEqual(last(*begun(7, everyone(7)), "glad"), [42, 6])
        self.assertEqual(last(*begun(4, {2: [0, 1, 3], 1: [2]}), "glad"), [4, 3])

    def test_some_alone(self):
        # 0 has the first, 1 the second; both others are alone and have two on their lists.
        self.assertEqual(last(*FOUR, ("pair", 0, 1), "glad"), [5, 2])
        # 5 has the fourth on their list, 3 the fifth; the others are alone with nobody on theirs.
        calls = begun(6, {5: [0, 1, 2, 3], 3: [0, 1, 2, 4, 5]}) + [("pair", 3, 5)]
        self.assertEqual(last(*calls, "glad"), [7, 4])

    def test_nobody_alone(self):
        self.assertEqual(last(*FOUR, ("pair", 0, 1), ("pair", 2, 3), "glad"), [2, 1])
        self.assertEqual(last(*begun(2, everyone(2)), "all", "glad"), [0, 0])
        calls = begun(4, everyone(4)) + [("pair", 0, 3), ("pair", 1, 2)]
        self.assertEqual(last(*calls, "glad"), [2 + 1 + 1 + 0, 2])


class Look(Refusals):
    def test_a_full_list(self):
        told = ask(*begun(7, {3: [6, 0, 5, 1, 4, 2], 0: [1, 2, 3, 4, 5, 6]}), ("look", 3), ("look", 0))
        self.assertEqual(told[-2:], [[6, 7, 1, 6, 2, 5, 3], [6, 2, 3, 4, 5, 6, 7]])

    def test_none(self):
        for n in (1, 7):
            self.assertEqual(last(("start", n), ("look", n - 1)), [0] * 7)
        self.assertEqual(last(*FOUR, wish(0, [], 3), ("look", 0)), [0] * 7)

    def test_some(self):
        self.assertEqual(last(*FOUR, ("look", 2)), [2, 4, 2, 0, 0, 0, 0])
        self.assertEqual(last(*FOUR, wish(0, [2, 1, 3], GREATEST), ("look", 0)), [3, 3, 2, 4, 0, 0, 0])
        self.assertEqual(last(*FOUR, ("swap", 2, 0, 1), ("look", 2)), [2, 2, 4, 0, 0, 0, 0])

    def test_a_pair_leaves_the_list(self):
        self.assertEqual(last(*FOUR, ("pair", 2, 3), ("look", 2)), [2, 4, 2, 0, 0, 0, 0])

    def test_there_is_none(self):
        for a in NOT_THERE:
            self.refused(FOUR, ("look", a), -2)
        self.refused([("start", 0)], ("look", 0), -2)


if __name__ == "__main__":
    unittest.main()
