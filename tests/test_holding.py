"""Point 4: what holds, and the order of all pairings."""

import unittest

from calling import EVEN_RING, GREATEST, LOOKS, ODD_RING, THREE_HOLD, Refusals, ask, begun, everyone, last
from pairsthathold.pairings import all_pairings

FOUR = begun(4, EVEN_RING)
# 0 and 5 would have nobody else; the others are a ring of four, with two pairings that hold.
INNER_RING = {0: [5], 5: [0], 1: [2, 4], 2: [3, 1], 3: [4, 2], 4: [1, 3]}
# 1, 3, 4, 6 are a ring of four; 2 would rather have 5 than 0.
RING_AND_REST = {1: [3, 6], 3: [4, 1], 4: [6, 3], 6: [1, 4], 0: [2], 2: [5, 0], 5: [2]}
RING_OF_SIX = {a: [(a + 1) % 6, (a + 5) % 6] for a in range(6)}


class Holds(unittest.TestCase):
    def test_as_they_are(self):
        told = ask(*FOUR, "holds", ("pair", 0, 1), "holds", ("pair", 2, 3), "holds", ("part", 0), "holds")
        self.assertEqual([told[5], told[7], told[9], told[11]], [[0], [0], [1], [0]])

    def test_the_later_one_holds_too(self):
        self.assertEqual(last(*FOUR, ("pair", 3, 0), ("pair", 2, 1), "holds"), [1])

    def test_nobody_paired_holds_if_nobody_would_share(self):
        self.assertEqual(last(*begun(3, {0: [1, 2], 1: [2]}), "holds"), [1])

    def test_both_must_rather(self):
        calls = begun(3, {0: [1, 2], 1: [0, 2], 2: [1, 0]}) + [("pair", 0, 1)]
        self.assertEqual(last(*calls, "holds"), [1])
        calls = begun(3, {0: [1, 2], 1: [2, 0], 2: [0, 1]}) + [("pair", 0, 1)]
        self.assertEqual(last(*calls, "holds"), [0])

    def test_in_an_odd_ring_none_does(self):
        for two in ((0, 1), (1, 2), (2, 0)):
            self.assertEqual(last(*begun(3, ODD_RING), ("pair", *two), "holds"), [0])


class Breakers(unittest.TestCase):
    def test_none(self):
        self.assertEqual(last(*FOUR, "all", "breakers"), [0, 0, 0])
        self.assertEqual(last(("start", 7), "breakers"), [0, 0, 0])

    def test_the_first_two_by_the_lesser_one_then_the_other(self):
        self.assertEqual(last(*FOUR, "breakers"), [4, 0, 1])
        self.assertEqual(last(*FOUR, ("pair", 0, 1), "breakers"), [2, 1, 2])
        self.assertEqual(last(*FOUR, ("pair", 1, 2), "breakers"), [2, 0, 3])
        self.assertEqual(last(*begun(5, {4: [3, 0], 3: [1, 4], 1: [3], 0: [4]}), "breakers"), [3, 0, 4])
        self.assertEqual(last(*begun(5, {4: [1, 2], 1: [4], 2: [3, 4], 3: [2]}), "breakers"), [3, 1, 4])
        self.assertEqual(last(*begun(7, {6: [5], 5: [6]}), "breakers"), [1, 5, 6])

    def test_all_would(self):
        self.assertEqual(last(*begun(7, everyone(7)), "breakers"), [21, 0, 1])


class Would(unittest.TestCase):
    def test_each_two_both_ways(self):
        calls = FOUR + [("pair", 0, 1)]
        would = {(1, 2), (2, 1), (2, 3), (3, 2)}
        for a in range(4):
            for b in range(4):
                self.assertEqual(last(*calls, ("would", a, b)), [int((a, b) in would)])

    def test_both_must_have_the_other_on_their_list(self):
        for two in ((0, 1), (1, 0)):
            self.assertEqual(last(*begun(2, {0: [1]}), ("would", *two)), [0])
            self.assertEqual(last(*begun(2, {0: [1], 1: [0]}), ("would", *two)), [1])

    def test_there_is_none(self):
        for a in (4, 7, GREATEST):
            self.assertEqual(last(*FOUR, ("would", a, 0)), [-2])
            self.assertEqual(last(*FOUR, ("would", 0, a)), [-2])
            self.assertEqual(last(*FOUR, ("would", a, a)), [-2])

    def test_themselves(self):
        self.assertEqual(last(*FOUR, ("would", 1, 1)), [0])
        self.assertEqual(last(*FOUR, ("pair", 0, 1), ("would", 1, 1)), [0])


class Good(unittest.TestCase):
    def test_how_many_hold(self):
        for n, lists, many in ((4, EVEN_RING, 2), (3, ODD_RING, 0), (6, INNER_RING, 2), (7, RING_AND_REST, 2),
                               (6, RING_OF_SIX, 2), (6, THREE_HOLD, 3), (7, everyone(7), 1), (7, {}, 1), (0, {}, 1)):
            self.assertEqual(last(*begun(n, lists), "good"), [many])

    def test_whoever_is_with_whom(self):
        self.assertEqual(last(*FOUR, ("pair", 0, 1), "good"), [2])


class Nth(unittest.TestCase):
    def told(self, n, lists, rows):
        calls = begun(n, lists)
        for k, row in enumerate(rows):
            self.assertEqual(last(*calls, ("nth", k)), row)
        for k in (len(rows), len(rows) + 1, 2 ** 31, GREATEST):
            self.assertEqual(last(*calls, ("nth", k)), [-2])

    def test_two_that_differ_for_the_first_student(self):
        self.told(4, EVEN_RING, [[2, 2, 1, 4, 3, 0, 0, 0], [2, 4, 3, 2, 1, 0, 0, 0]])
        self.told(6, RING_OF_SIX, [[3, 2, 1, 4, 3, 6, 5, 0], [3, 6, 3, 2, 5, 4, 1, 0]])

    def test_two_that_differ_for_a_later_student(self):
        self.told(6, INNER_RING, [[3, 6, 3, 2, 5, 4, 1, 0], [3, 6, 5, 4, 3, 2, 1, 0]])

    def test_some_are_alone(self):
        lists = {**RING_AND_REST, 2: [5]}
        self.told(7, lists, [[3, 0, 4, 6, 2, 7, 3, 5], [3, 0, 7, 6, 5, 4, 3, 2]])

    def test_three_hold(self):
        self.told(6, THREE_HOLD, [[3, 4, 5, 6, 1, 2, 3, 0], [3, 5, 6, 4, 3, 1, 2, 0], [3, 6, 4, 5, 2, 3, 1, 0]])

    def test_nobody_shares(self):
        self.told(7, {0: [1, 2]}, [[0] * 8])

    def test_none_holds(self):
        self.told(3, ODD_RING, [])

    def test_nobody_is_paired_by_it(self):
        self.assertEqual(last(*FOUR, ("nth", 1), ("part", 0)), [-6])


class BestAndWorst(unittest.TestCase):
    def told(self, n, lists, best, worst):
        calls = begun(n, lists)
        self.assertEqual([last(*calls, ("best", a))[0] for a in range(n)], best)
        self.assertEqual([last(*calls, ("worst", a))[0] for a in range(n)], worst)

    def test_in_rings(self):
        self.told(4, EVEN_RING, [1, 2, 3, 0], [3, 0, 1, 2])
        self.told(6, INNER_RING, [5, 2, 3, 4, 1, 0], [5, 4, 1, 2, 3, 0])

    def test_by_their_place_not_their_number(self):
        self.told(4, {0: [3, 1], 1: [0, 2], 2: [1, 3], 3: [2, 0]}, [3, 0, 1, 2], [1, 2, 3, 0])

    def test_of_three(self):
        self.told(6, THREE_HOLD, [3, 4, 5, 1, 2, 0], [5, 3, 4, 0, 1, 2])

    def test_alone(self):
        self.told(3, {0: [1], 1: [0, 2], 2: [1]}, [1, 0, 2], [1, 0, 2])
        self.told(7, {}, [0, 1, 2, 3, 4, 5, 6], [0, 1, 2, 3, 4, 5, 6])

    def test_whoever_is_with_whom(self):
        calls = FOUR + [("pair", 0, 3)]
        self.assertEqual(ask(*calls, ("best", 0), ("worst", 1))[-2:], [[1], [0]])

    def test_none_holds(self):
        for a in range(3):
            for call in ("best", "worst"):
                self.assertEqual(last(*begun(4, ODD_RING), (call, a)), [-33])
        self.assertEqual(last(*begun(4, ODD_RING), ("best", 3)), [-33])
        self.assertEqual(last(*begun(4, ODD_RING), ("worst", 3)), [-33])

    def test_there_is_none(self):
        for a in (4, 7, GREATEST):
            for call in ("best", "worst"):
                self.assertEqual(last(*FOUR, (call, a)), [-2])

    def test_there_is_none_is_looked_at_first(self):
        for a in (3, GREATEST):
            for call in ("best", "worst"):
                self.assertEqual(last(*begun(3, ODD_RING), (call, a)), [-2])


class Alone(unittest.TestCase):
    def test_who_is(self):
        self.assertEqual(last(*FOUR, "alone"), [0, 0])
        self.assertEqual(last(*begun(7, everyone(7)), "alone"), [1, 64])
        self.assertEqual(last(*begun(7, {**RING_AND_REST, 2: [5]}), "alone"), [1, 1])
        self.assertEqual(last(*begun(6, {1: [4, 0], 4: [2, 1], 0: [1]}), "alone"), [4, 0b101101])
        self.assertEqual(last(("start", 7), "alone"), [7, 127])
        self.assertEqual(last(("start", 1), "alone"), [1, 1])

    def test_whoever_is_with_whom(self):
        self.assertEqual(last(*begun(3, {0: [1], 1: [0, 2], 2: [1]}), ("pair", 1, 2), "alone"), [1, 4])

    def test_none_holds(self):
        self.assertEqual(last(*begun(3, ODD_RING), "alone"), [-33])


class Ever(Refusals):
    def test_in_how_many_that_hold(self):
        calls = begun(6, THREE_HOLD)
        for a in range(6):
            for b in range(6):
                if a != b:
                    self.assertEqual(last(*calls, ("ever", a, b)), [int((a < 3) != (b < 3))])

    def test_in_more_than_one(self):
        calls = begun(6, INNER_RING)
        told = [last(*calls, ("ever", *two)) for two in ((0, 5), (5, 0), (1, 2), (4, 1), (1, 3), (0, 1))]
        self.assertEqual(told, [[2], [2], [1], [1], [0], [0]])

    def test_whoever_is_with_whom(self):
        self.assertEqual(ask(*FOUR, ("pair", 0, 3), ("ever", 0, 1), ("ever", 0, 3), ("ever", 0, 2))[-3:],
                         [[1], [1], [0]])

    def test_none_holds(self):
        self.assertEqual(last(*begun(3, ODD_RING), ("ever", 0, 1)), [0])

    def test_nobody_shares(self):
        self.assertEqual(last(*begun(7, {5: [6]}), ("ever", 5, 6)), [0])

    def test_there_is_none(self):
        for a in (4, 7, 2 ** 31, GREATEST):
            self.refused(FOUR, ("ever", a, 0), -2)
            self.refused(FOUR, ("ever", 0, a), -2)
        self.refused([("start", 0)], ("ever", 0, 1), -2)

    def test_the_same_one(self):
        for a in range(4):
            self.refused(FOUR, ("ever", a, a), -22)
        self.refused([("start", 1)], ("ever", 0, 0), -22)

    def test_there_is_none_is_looked_at_first(self):
        for a in (4, GREATEST):
            self.refused(FOUR, ("ever", a, a), -2)
        self.refused([("start", 0)], ("ever", 0, 0), -2)


class Fairest(Refusals):
    def test_the_greatest_place_decides(self):
        # The first one has 3 as its greatest place and 6 in all, the other one 2, and 7 in all.
        lists = {0: [1, 5, 3], 1: [0, 2, 4], 2: [1, 0, 5, 3], 3: [0, 2, 4], 4: [1, 3, 5], 5: [4, 0, 2]}
        calls = begun(6, lists)
        self.assertEqual(ask(*calls, ("nth", 0), ("nth", 1))[-2:], [[3, 2, 1, 4, 3, 6, 5, 0], [3, 2, 1, 6, 5, 4, 3, 0]])
        self.assertEqual(last(*calls, "fairest"), [2, 7, 2, 1, 6, 5, 4, 3, 0])
        self.assertEqual(last(*begun(6, THREE_HOLD), "fairest"), [1, 6, 5, 6, 4, 3, 1, 2, 0])

    def test_all_places_together_decide(self):
        # Both have 2 as their greatest place; the first one has 4 in all, the other one 3.
        calls = begun(4, {0: [3, 2, 1], 1: [3, 0, 2], 2: [1, 3], 3: [2, 0]})
        self.assertEqual(ask(*calls, ("nth", 0), ("nth", 1))[-2:], [[2, 2, 1, 4, 3, 0, 0, 0], [2, 4, 3, 2, 1, 0, 0, 0]])
        self.assertEqual(last(*calls, "fairest"), [2, 3, 4, 3, 2, 1, 0, 0, 0])

    def test_the_order_decides(self):
        self.assertEqual(last(*FOUR, "fairest"), [1, 2, 2, 1, 4, 3, 0, 0, 0])
        # All three have 2 as their greatest place; the first one has 6 in all, the others 5.
        lists = {0: [5, 1, 3], 1: [2, 4, 0], 2: [5, 1, 3], 3: [0, 2, 4], 4: [3, 1, 5], 5: [4, 2, 0]}
        calls = begun(6, lists)
        self.assertEqual(ask(*calls, ("nth", 1), ("nth", 2))[-2:], [[3, 4, 3, 2, 1, 6, 5, 0], [3, 4, 5, 6, 1, 2, 3, 0]])
        self.assertEqual(last(*calls, "fairest"), [2, 5, 4, 3, 2, 1, 6, 5, 0])

    def test_who_is_alone_counts_as_many_as_are_on_the_list(self):
        self.assertEqual(last(*begun(7, everyone(7)), "fairest"), [6, 18, 2, 1, 4, 3, 6, 5, 0])
        self.assertEqual(last(*begun(4, {0: [1, 2, 3], 1: [2]}), "fairest"), [3, 4] + [0] * 7)

    def test_nobody_there_or_on_a_list(self):
        for n in (0, 1, 7):
            self.assertEqual(last(("start", n), "fairest"), [0] * 9)

    def test_whoever_is_with_whom(self):
        told = ask(*FOUR, ("pair", 1, 2), ("pair", 0, 3), "fairest", ("part", 0))
        self.assertEqual(told[-2:], [[1, 2, 2, 1, 4, 3, 0, 0, 0], [3]])

    def test_none_holds(self):
        self.refused(begun(3, ODD_RING), "fairest", -33)
        self.refused(begun(7, {**ODD_RING, 4: [5], 5: [4]}) + [("pair", 4, 5)], "fairest", -33)


class NothingIsChanged(unittest.TestCase):
    def test_what_is_told_stays(self):
        for calls in (FOUR + [("pair", 0, 3)], begun(3, ODD_RING) + [("pair", 0, 2)], begun(6, THREE_HOLD)):
            once = ask(*calls, *LOOKS)
            twice = ask(*calls, *LOOKS, *LOOKS)
            self.assertEqual(twice, once + once[len(calls):])


class Order(unittest.TestCase):
    """Who is alone in one that holds is alone in each: that being alone comes first is seen of all pairings alone."""

    def test_three_who_would_share(self):
        lists = ((2, 1), (0, 2), (1, 0))
        self.assertEqual(all_pairings(lists), [(0, 1, 2), (0, 2, 1), (1, 0, 2), (2, 1, 0)])

    def test_four_of_whom_not_all_would(self):
        lists = ((3, 1), (0, 2), (3, 1), (0, 2))
        self.assertEqual(all_pairings(lists), [
            (0, 1, 2, 3), (0, 1, 3, 2), (0, 2, 1, 3), (1, 0, 2, 3), (1, 0, 3, 2), (3, 1, 2, 0), (3, 2, 1, 0)])

    def test_how_many_there_are(self):
        for n, many in enumerate((1, 1, 2, 4, 10, 26, 76, 232)):
            lists = tuple([tuple(wished) for wished in everyone(n).values()])
            self.assertEqual(len(all_pairings(lists)), many)


if __name__ == "__main__":
    unittest.main()
