"""Point 5: ho_rings, ho_ring, ho_odds, ho_without."""

import unittest

from calling import EVEN_RING, GREATEST, LOOKS, ODD_RING, THREE_HOLD, Refusals, ask, begun, everyone, last, ringed, wish

# Of these six the ring itself comes first: of the two pairings that hold, one has 4 next to 0, the other 5 next to 1.
RING_THAT_COMES_FIRST = ringed([0, 3, 5, 1, 2, 4])
THREE_OF_SEVEN = ringed([1, 6, 3])
FIVE = ringed([0, 1, 2, 3, 4])
FIVE_ACROSS = ringed([0, 2, 4, 1, 3])
SEVEN = ringed([0, 1, 2, 3, 4, 5, 6])
SEVEN_ACROSS = ringed([0, 4, 1, 6, 3, 5, 2])
TWO_ODD = ringed([0, 5, 2], [1, 3, 4])
FIVE_AND_TWO = ringed([6, 4, 2, 1, 0], [3, 5])
# All would share with all; 3 is the last for each of the others, who are an odd ring.
LEFT_OVER = {0: [1, 2, 3], 1: [2, 0, 3], 2: [0, 1, 3], 3: [0, 1, 2]}
# 0 would rather have 3 than be in a ring with 1 and 2.
HELD_BY_ONE = {0: [3, 1, 2], 1: [2, 0], 2: [0, 1], 3: [0]}


class Rings(unittest.TestCase):
    def told(self, n, lists, many, after):
        """So many odd rings; who's next to each one."""
        row = [a + 1 for a in after] + [0] * (7 - n)
        self.assertEqual(last(*begun(n, lists), "rings"), [many] + row)

    def test_nobody_would_share(self):
        for n in range(8):
            self.told(n, {}, 0, range(n))
        self.told(3, {0: [1, 2], 1: [2]}, 0, [0, 1, 2])

    def test_twos(self):
        self.told(7, everyone(7), 0, [1, 0, 3, 2, 5, 4, 6])
        self.told(4, {0: [2], 2: [0]}, 0, [2, 1, 0, 3])

    def test_who_would_rather_have_another_than_who_is_before_them(self):
        # 1 has 0 and 2 on their list, and would rather have 2, who'd rather have them than be alone.
        self.told(3, {0: [1], 1: [2, 0], 2: [1]}, 0, [0, 2, 1])

    def test_of_a_ring_of_four_the_first_twos(self):
        self.told(4, EVEN_RING, 0, [1, 0, 3, 2])
        self.told(4, ringed([0, 2, 1, 3]), 0, [2, 3, 0, 1])
        self.told(4, ringed([0, 3, 2, 1]), 0, [1, 0, 3, 2])
        self.told(6, ringed([5, 1, 4, 2]), 0, [0, 4, 5, 3, 1, 2])

    def test_of_a_ring_of_six_the_first(self):
        self.told(6, ringed([0, 1, 2, 3, 4, 5]), 0, [1, 0, 3, 2, 5, 4])
        self.told(6, RING_THAT_COMES_FIRST, 0, [3, 2, 4, 5, 0, 1])
        self.told(7, ringed([1, 4, 6, 2, 3, 5]), 0, [0, 4, 3, 5, 6, 1, 2])

    def test_of_several_the_first(self):
        self.told(6, THREE_HOLD, 0, [3, 4, 5, 0, 1, 2])
        self.told(7, ringed([0, 2, 1, 3], [4, 6]), 0, [2, 3, 0, 1, 6, 5, 4])

    def test_one_odd_ring_of_three(self):
        self.told(3, ODD_RING, 1, [1, 2, 0])
        self.told(3, ringed([0, 2, 1]), 1, [2, 0, 1])
        self.told(7, THREE_OF_SEVEN, 1, [0, 6, 2, 1, 4, 5, 3])
        self.told(4, LEFT_OVER, 1, [1, 2, 0, 3])

    def test_one_odd_ring_of_five(self):
        self.told(5, FIVE, 1, [1, 2, 3, 4, 0])
        self.told(5, FIVE_ACROSS, 1, [2, 3, 4, 0, 1])
        self.told(7, FIVE_AND_TWO, 1, [6, 0, 1, 5, 2, 3, 4])

    def test_one_odd_ring_of_seven(self):
        self.told(7, SEVEN, 1, [1, 2, 3, 4, 5, 6, 0])
        self.told(7, SEVEN_ACROSS, 1, [4, 6, 0, 5, 1, 2, 3])

    def test_two_odd_rings(self):
        self.told(6, TWO_ODD, 2, [5, 3, 0, 4, 1, 2])
        self.told(7, TWO_ODD, 2, [5, 3, 0, 4, 1, 2, 6])
        self.told(7, ringed([0, 1, 2], [4, 6, 5]), 2, [1, 2, 0, 3, 6, 4, 5])

    def test_an_odd_ring_beside_an_even_one(self):
        self.told(7, ringed([0, 1, 2], [3, 4, 5, 6]), 1, [1, 2, 0, 4, 3, 6, 5])

    def test_one_who_would_rather_have_another_ends_an_odd_ring(self):
        self.told(4, HELD_BY_ONE, 0, [3, 2, 1, 0])

    def test_whoever_is_with_whom(self):
        calls = begun(4, EVEN_RING) + [("pair", 0, 3), ("pair", 1, 2)]
        self.assertEqual(last(*calls, "rings"), [0, 2, 1, 4, 3, 0, 0, 0])

    def test_with_another_list_there_are_others(self):
        calls = begun(3, ODD_RING)
        told = ask(*calls, "rings", ("swap", 0, 0, 1), "rings", "back", "rings", wish(0, []), "rings")
        odd = [1, 2, 3, 1, 0, 0, 0, 0]
        self.assertEqual([told[4], told[6], told[8], told[10]],
                         [odd, [0, 3, 2, 1, 0, 0, 0, 0], odd, [0, 1, 3, 2, 0, 0, 0, 0]])


class Ring(Refusals):
    def told(self, n, lists, a, ring):
        row = [b + 1 for b in ring] + [0] * (7 - len(ring))
        self.assertEqual(last(*begun(n, lists), ("ring", a)), [len(ring)] + row)

    def test_alone(self):
        self.told(1, {}, 0, [0])
        self.told(7, THREE_OF_SEVEN, 0, [0])
        self.told(7, everyone(7), 6, [6])

    def test_of_two(self):
        self.told(7, everyone(7), 2, [2, 3])
        self.told(7, everyone(7), 3, [3, 2])
        self.told(4, EVEN_RING, 1, [1, 0])
        self.told(7, FIVE_AND_TWO, 5, [5, 3])

    def test_of_three(self):
        self.told(7, THREE_OF_SEVEN, 1, [1, 6, 3])
        self.told(7, THREE_OF_SEVEN, 3, [3, 1, 6])
        self.told(7, THREE_OF_SEVEN, 6, [6, 3, 1])

    def test_of_five_six_and_seven(self):
        self.told(5, FIVE_ACROSS, 4, [4, 1, 3, 0, 2])
        self.told(7, FIVE_AND_TWO, 6, [6, 4, 2, 1, 0])
        self.told(6, RING_THAT_COMES_FIRST, 2, [2, 4, 0, 3, 5, 1])
        self.told(7, SEVEN_ACROSS, 0, [0, 4, 1, 6, 3, 5, 2])
        self.told(7, SEVEN, 6, [6, 0, 1, 2, 3, 4, 5])

    def test_one_of_two_odd_rings(self):
        self.told(6, TWO_ODD, 2, [2, 0, 5])
        self.told(6, TWO_ODD, 4, [4, 1, 3])

    def test_there_is_none(self):
        for a in (4, 6, 7, 2 ** 31, GREATEST):
            self.refused(begun(4, EVEN_RING), ("ring", a), -2)
        self.refused(begun(3, ODD_RING), ("ring", 3), -2)
        self.refused([("start", 0)], ("ring", 0), -2)
        self.refused([("start", 7)], ("ring", 7), -2)


class Odds(unittest.TestCase):
    def told(self, n, lists, members):
        self.assertEqual(last(*begun(n, lists), "odds"), [len(members), sum(2 ** a for a in members)])

    def test_none(self):
        for n in (0, 1, 7):
            self.told(n, {}, [])
        self.told(4, EVEN_RING, [])
        self.told(6, RING_THAT_COMES_FIRST, [])
        self.told(7, everyone(7), [])
        self.told(4, HELD_BY_ONE, [])

    def test_one(self):
        self.told(3, ODD_RING, [0, 1, 2])
        self.told(7, THREE_OF_SEVEN, [1, 3, 6])
        self.told(4, LEFT_OVER, [0, 1, 2])
        self.told(7, FIVE_AND_TWO, [0, 1, 2, 4, 6])
        self.told(7, SEVEN_ACROSS, range(7))

    def test_two(self):
        self.told(6, TWO_ODD, range(6))
        self.told(7, ringed([0, 1, 2], [4, 6, 5]), [0, 1, 2, 4, 5, 6])

    def test_whoever_is_with_whom(self):
        self.assertEqual(last(*begun(3, ODD_RING), ("pair", 0, 1), "odds"), [3, 7])


class Without(Refusals):
    def told(self, n, lists, w, some, many):
        self.assertEqual(last(*begun(n, lists), ("without", w)), [some, many])

    def test_nobody_away(self):
        self.told(4, EVEN_RING, 0, 1, 0)
        self.told(3, ODD_RING, 0, 0, 3)
        self.told(7, FIVE_AND_TWO, 0, 0, 5)
        self.told(7, SEVEN, 0, 0, 7)
        self.told(7, TWO_ODD, 0, 0, 6)
        self.told(0, {}, 0, 1, 0)

    def test_all_away(self):
        for n in range(8):
            self.told(n, everyone(n), 2 ** n - 1, 1, 0)
        self.told(7, SEVEN, 127, 1, 0)
        self.told(3, ODD_RING, 7, 1, 0)

    def test_one_of_an_odd_ring_away(self):
        for a in (0, 1, 2):
            self.told(3, ODD_RING, 1 << a, 1, 0)
            self.told(4, LEFT_OVER, 1 << a, 1, 0)
        for a in (6, 4, 2, 1, 0):
            self.told(7, FIVE_AND_TWO, 1 << a, 1, 0)
        for a in range(7):
            self.told(7, SEVEN_ACROSS, 1 << a, 1, 0)

    def test_others_away_leave_an_odd_ring(self):
        self.told(4, LEFT_OVER, 8, 0, 3)
        self.told(7, FIVE_AND_TWO, 0b101000, 0, 5)
        self.told(7, THREE_OF_SEVEN, 0b0110101, 0, 3)

    def test_of_two_odd_rings(self):
        for a in range(6):
            self.told(6, TWO_ODD, 1 << a, 0, 3)
        for a in (0, 2, 5):
            for b in (1, 3, 4):
                self.told(6, TWO_ODD, (1 << a) + (1 << b), 1, 0)

    def test_there_may_be_an_odd_ring_then(self):
        self.told(4, HELD_BY_ONE, 0, 1, 0)
        self.told(4, HELD_BY_ONE, 8, 0, 3)

    def test_of_a_whole_ring_away_nothing_is_left(self):
        self.told(6, TWO_ODD, 0b100101, 0, 3)

    def test_others_than_there_are(self):
        for n in range(8):
            self.refused(begun(n, everyone(n)), ("without", 2 ** n), -22)
            self.refused(begun(n, everyone(n)), ("without", 2 ** n + 2 ** n - 1), -22)
            self.refused(begun(n, everyone(n)), ("without", GREATEST), -22)
        self.refused(begun(3, ODD_RING), ("without", 2 ** 31 + 1), -22)

    def test_nobody_is_away_behind_it(self):
        for lists in (EVEN_RING, HELD_BY_ONE, LEFT_OVER):
            calls = begun(4, lists) + [("pair", 0, 1)]
            told = ask(*calls, ("without", 3), ("without", 15), *LOOKS)
            self.assertEqual(told[len(calls) + 2:], ask(*calls, *LOOKS)[len(calls):])


if __name__ == "__main__":
    unittest.main()
