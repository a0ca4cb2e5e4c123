"""Point 2: ho_wish and ho_swap."""

import unittest

from calling import EVEN_RING, GREATEST, Refusals, ask, begun, everyone, last, wish

FOUR = begun(4, EVEN_RING)


class Wish(Refusals):
    def test_it_answers_how_many_were_on_the_list(self):
        told = ask(("start", 7), wish(0, [1, 2, 3]), wish(0, [4]), wish(0, []), wish(0, [6, 5, 4, 3, 2, 1]),
                   wish(0, [1]))
        self.assertEqual(told, [[0], [0, 0], [3, 0], [1, 0], [0, 0], [6, 0]])

    def test_each_one_has_a_list_of_their_own(self):
        told = ask(("start", 3), wish(0, [1, 2]), wish(1, [0]), wish(2, []), wish(0, []), wish(1, []))
        self.assertEqual(told, [[0], [0, 0], [0, 0], [0, 0], [2, 0], [1, 0]])

    def test_whom_they_would_rather_have_first(self):
        lists = {0: [2, 1], 1: [0], 2: [0]}
        self.assertEqual(last(*begun(3, lists), ("best", 0)), [2])
        lists[0] = [1, 2]
        self.assertEqual(last(*begun(3, lists), ("best", 0)), [1])

    def test_there_is_none(self):
        for a in (4, 5, 7, 2 ** 32 - 4, GREATEST):
            self.refused(FOUR, wish(a, [0]), -2)

    def test_there_is_none_is_looked_at_first(self):
        self.refused(FOUR, ("wish", 4, 7, [9] * 6), -2)
        self.refused(FOUR, ("wish", GREATEST, GREATEST, [GREATEST] * 6), -2)
        self.refused(FOUR, ("wish", 4, 2, [1, 1, 0, 0, 0, 0]), -2)

    def test_more_than_six(self):
        for n in (7, 8, 2 ** 31, GREATEST):
            self.refused(begun(7, {}), ("wish", 0, n, [1, 2, 3, 4, 5, 6]), -22)

    def test_those_who_are_not_there(self):
        for b in (4, 5, 7, GREATEST):
            self.refused(FOUR, wish(0, [b]), -22)
            self.refused(FOUR, wish(0, [1, 2, b]), -22)

    def test_themselves(self):
        self.refused(FOUR, wish(0, [0]), -22)
        self.refused(FOUR, wish(3, [0, 1, 3]), -22)

    def test_somebody_twice(self):
        self.refused(FOUR, wish(0, [1, 1]), -22)
        self.refused(FOUR, wish(0, [1, 2, 1]), -22)
        self.refused(begun(7, {}), ("wish", 0, 6, [1, 2, 3, 4, 5, 5]), -22)

    def test_the_sixth_counts(self):
        self.refused(begun(7, {}), ("wish", 0, 6, [1, 2, 3, 4, 5, 0]), -22)
        self.refused(begun(7, {}), ("wish", 0, 6, [1, 2, 3, 4, 5, 7]), -22)

    def test_numbers_behind_the_first_n_do_not_count(self):
        for rest in (0, 1, 4, GREATEST):
            self.assertEqual(last(("start", 4), wish(0, [1], rest)), [0, 0])
            self.assertEqual(last(("start", 4), wish(0, [], rest)), [0, 0])
            told = ask(("start", 4), wish(0, [1], rest), wish(1, [0], rest), wish(2, [0], rest), ("would", 0, 1),
                       ("would", 0, 2), wish(0, []))
            self.assertEqual(told[-3:], [[1], [0], [1, 0]])

    def test_a_pair_that_would_not_share_any_more_is_parted(self):
        calls = begun(4, everyone(4)) + [("pair", 0, 2), ("pair", 1, 3)]
        for a, b in ((0, 2), (2, 0)):
            told = ask(*calls, wish(a, [1, 3]), ("part", b), ("part", a), ("part", 1))
            self.assertEqual(told[-4:], [[3, 1], [-6], [-6], [3]])
            told = ask(*calls, wish(a, []), ("part", a), ("part", b), ("part", 3))
            self.assertEqual(told[-4:], [[3, 1], [-6], [-6], [1]])

    def test_a_pair_that_would_still_share_stays(self):
        calls = begun(4, everyone(4)) + [("pair", 0, 2), ("pair", 1, 3)]
        for a, b in ((0, 2), (2, 0)):
            self.assertEqual(ask(*calls, wish(a, [b]), ("part", b))[-2:], [[3, 2], [a]])
            self.assertEqual(ask(*calls, wish(a, [1, 3, b]), ("part", b))[-2:], [[3, 2], [a]])

    def test_one_who_is_alone_leaves_all_pairs(self):
        calls = begun(4, everyone(4)) + [("pair", 1, 3)]
        self.assertEqual(ask(*calls, wish(0, []), wish(2, [1]), ("part", 3))[-3:], [[3, 1], [3, 1], [1]])

    def test_who_was_parted_does_not_come_back(self):
        calls = begun(2, everyone(2)) + [("pair", 0, 1), wish(0, []), wish(0, [1])]
        self.assertEqual(ask(*calls, ("part", 0))[-3:], [[1, 0], [0, 0], [-6]])


class Swap(Refusals):
    def test_it_answers_who_was_at_both(self):
        calls = begun(4, {0: [3, 1, 2]})
        self.assertEqual(last(*calls, ("swap", 0, 0, 2)), [3, 2])
        self.assertEqual(last(*calls, ("swap", 0, 2, 0)), [2, 3])
        self.assertEqual(last(*calls, ("swap", 0, 1, 2)), [1, 2])

    def test_they_have_changed_places(self):
        told = ask(*begun(4, {0: [3, 1, 2]}), ("swap", 0, 0, 2), ("swap", 0, 0, 1), ("swap", 0, 1, 2))
        self.assertEqual(told[-3:], [[3, 2], [2, 1], [2, 3]])

    def test_six_on_the_list(self):
        told = ask(*begun(7, {0: [1, 2, 3, 4, 5, 6]}), ("swap", 0, 5, 0), ("swap", 0, 0, 5), ("swap", 0, 6, 0))
        self.assertEqual(told[-3:], [[6, 1], [6, 1], [-22]])

    def test_only_that_list_is_another(self):
        told = ask(*begun(3, {0: [1, 2], 1: [0, 2], 2: [0, 1]}), ("swap", 1, 0, 1), ("swap", 0, 0, 1),
                   ("swap", 2, 0, 1), ("swap", 1, 0, 1))
        self.assertEqual(told[-4:], [[0, 2], [1, 2], [0, 1], [2, 0]])

    def test_pairs_stay_and_places_count(self):
        calls = begun(3, {0: [1, 2], 1: [0], 2: [0]}) + [("pair", 0, 1)]
        told = ask(*calls, "holds", ("swap", 0, 0, 1), "holds", ("part", 1))
        self.assertEqual(told[-4:], [[1], [1, 2], [0], [0]])

    def test_there_is_none(self):
        for a in (4, 7, GREATEST):
            self.refused(FOUR, ("swap", a, 0, 1), -2)

    def test_there_is_none_is_looked_at_first(self):
        self.refused(FOUR, ("swap", 4, 0, 0), -2)
        self.refused(FOUR, ("swap", GREATEST, GREATEST, GREATEST), -2)

    def test_no_such_place(self):
        for i in (2, 3, 6, GREATEST - 1, GREATEST):
            self.refused(FOUR, ("swap", 0, i, 0), -22)
            self.refused(FOUR, ("swap", 0, 1, i), -22)
            self.refused(FOUR, ("swap", 0, i, i), -22)

    def test_the_same_place_twice(self):
        self.refused(FOUR, ("swap", 0, 0, 0), -22)
        self.refused(FOUR, ("swap", 0, 1, 1), -22)

    def test_a_list_with_nobody(self):
        self.refused(begun(4, {}), ("swap", 0, 0, 1), -22)
        self.refused(begun(4, {}), ("swap", 0, 0, 0), -22)


if __name__ == "__main__":
    unittest.main()
