"""Point 1: ho_start."""

import unittest

from calling import EVEN_RING, GREATEST, LOOKS, ask, begun, last, wish


class Start(unittest.TestCase):
    def test_up_to_seven(self):
        for n in range(8):
            self.assertEqual(ask(("start", n)), [[0]])

    def test_above_seven(self):
        for n in (8, 9, 2 ** 31, GREATEST):
            self.assertEqual(ask(("start", n)), [[-22]])

    def test_a_refused_one_ahead_of_another(self):
        self.assertEqual(ask(("start", 8), ("start", GREATEST), ("start", 1), "good"), [[-22], [-22], [0], [1]])

    def test_so_many_are_there(self):
        for n in range(8):
            told = ask(("start", n), *[("best", a) for a in range(8)])
            self.assertEqual(told, [[0]] + [[a] if a < n else [-2] for a in range(8)])

    def test_nobody_is_on_a_list_or_paired(self):
        told = ask(("start", 7), *[("would", a, b) for a in range(7) for b in range(7)])
        self.assertEqual(told, [[0]] * 50)
        told = ask(("start", 7), *[("part", a) for a in range(7)])
        self.assertEqual(told, [[0]] + [[-6]] * 7)
        self.assertEqual(ask(("start", 7), *[wish(a, []) for a in range(7)]), [[0]] + [[0, 0]] * 7)

    def test_nobody_there(self):
        nothing = [0] * 8
        self.assertEqual(
            ask(("start", 0), "good", "holds", "breakers", "alone", "all", ("nth", 0), ("nth", 1)),
            [[0], [1], [1], [0, 0, 0], [0, 0], nothing, nothing, [-2]])
        self.assertEqual(
            ask(("start", 0), "rings", "odds", ("without", 0), "single", "glad", "fairest", "state", "back", "again"),
            [[0], nothing, [0, 0], [1, 0], [0, 0], [0, 0], nothing + [0], [0, 0, 0, 0], [-2], [-2]])
        missing = [wish(0, []), ("swap", 0, 0, 1), ("pair", 0, 0), ("part", 0), ("break", 0, 0), ("would", 0, 0),
                   ("best", 0), ("worst", 0), ("ever", 0, 0), ("ring", 0), ("place", 0, 0), ("friends", 0),
                   ("with", 0), ("look", 0)]
        self.assertEqual(ask(("start", 0), *missing), [[0]] + [[-2]] * len(missing))

    def test_one_there(self):
        self.assertEqual(
            ask(("start", 1), "rings", ("ring", 0), "odds", ("without", 0), ("without", 1), "single", "glad",
                "fairest", ("look", 0), ("friends", 0), "good", "all", "state"),
            [[0], [0, 1, 0, 0, 0, 0, 0, 0], [1, 1, 0, 0, 0, 0, 0, 0], [0, 0], [1, 0], [1, 0], [1, 1], [0, 0], [0] * 9,
             [0] * 7, [0, 0], [1], [0] * 8, [1, 0, 1, 0]])

    def test_again(self):
        calls = begun(4, EVEN_RING) + [("pair", 0, 1), ("start", 4)]
        self.assertEqual(ask(*calls, *LOOKS)[len(calls):], ask(("start", 4), *LOOKS)[1:])
        self.assertEqual(last(*calls, ("part", 0)), [-6])
        self.assertEqual(last(*calls, wish(0, [1])), [0, 0])

    def test_again_with_fewer_and_with_more(self):
        calls = begun(4, EVEN_RING) + ["all"]
        self.assertEqual(ask(*calls, ("start", 2), ("best", 1), ("best", 2))[-3:], [[0], [1], [-2]])
        self.assertEqual(ask(*calls, ("start", 7), ("best", 6), ("part", 0))[-3:], [[0], [6], [-6]])

    def test_refused_again_leaves_all_as_it_was(self):
        calls = begun(4, EVEN_RING) + [("pair", 1, 2)]
        refused = ask(*calls, ("start", 8), *LOOKS, ("part", 1))
        self.assertEqual(refused[len(calls)], [-22])
        self.assertEqual(refused[len(calls) + 1:], ask(*calls, *LOOKS, ("part", 1))[len(calls):])


if __name__ == "__main__":
    unittest.main()
