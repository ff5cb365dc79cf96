"""does, bests, worth: by hand, at ordinary inputs, at the document's corners, and refused."""

import unittest

from tests.lines import last, replies

BIG = 4294967295

# Staying pays 1, leaving pays 3, and it ends there.
ONE_SELF = (("begin", 2, 1), ("act", 0, [1, 1, 0]), ("act", 0, [3, 0, 1]))

# Each of two selves has an act that the other hates; what pays self 0 most turns it into self 1.
OPPOSITE = (("begin", 2, 2), ("act", 0, [1, -1, 1, 0]), ("act", 0, [-1, 1, 1, 0]))
TEMPTED = OPPOSITE + (("act", 0, [2, 0, 1, 0]), ("turn", 0, 2, 2))

# What pays self 1 most turns it back into self 0, who then does what self 1 hates.
TURNED_BACK = (("begin", 2, 2), ("act", 0, [5, -5, 1, 0]), ("act", 0, [0, 2, 1, 0]),
               ("act", 0, [0, 3, 1, 0]), ("turn", 0, 2, 1))


class Ordinary(unittest.TestCase):
    def test_one_self(self):
        told = replies(*ONE_SELF, *[("does", 0, 0, 0, k) for k in (1, 2, 3, 4)],
                       *[("worth", 0, 0, 0, 0, k) for k in (0, 1, 2, 3, 4)])
        self.assertEqual(told[3:], [[1], [0], [0], [0], [0, 0, 1], [0, 3, 1], [0, 4, 1], [0, 5, 1], [0, 6, 1]])

    def test_bests(self):
        told = replies(("begin", 2, 2), ("act", 0, [4, 0, 1, 0]), ("act", 0, [3, 0, 1, 0]),
                       ("act", 0, [4, 0, 0, 1]), ("bests", 0, 0, 0, 1), ("bests", 0, 1, 0, 1),
                       ("bests", 0, 0, 0, 2), ("unact", 0, 0), ("bests", 0, 0, 0, 1))
        self.assertEqual(told[4:], [[2, 0, 2], [3, 0, 1, 2], [1, 0], [2], [1, 1]])

    def test_worth_in_the_mean(self):
        told = replies(("begin", 2, 1), ("act", 0, [0, 2, 1]), ("act", 1, [3, 0, 5]),
                       *[("worth", 0, 0, 0, 0, k) for k in (0, 1, 2, 3, 4)])
        self.assertEqual(told[3:], [[0, 0, 1], [0, 0, 1], [0, 1, 1], [0, 8, 3], [0, 43, 9]])

    def test_worth_below_0(self):
        told = replies(("begin", 2, 1), ("act", 0, [-1, 4, 4]), *[("worth", 0, 0, 0, 0, k) for k in (1, 2, 3, 4)])
        self.assertEqual(told[2:], [[0, -1, 1], [0, -3, 2], [0, -7, 4], [0, -15, 8]])

    def test_as_likely_as_its_weight_by_all_weights(self):
        start = (("begin", 4, 1), ("act", 1, [1, 0, 1, 0, 0]), ("act", 2, [2, 0, 1, 0, 0]), ("act", 3, [9, 1, 0, 0, 0]))
        self.assertEqual(last(*start, ("act", 0, [0, 9, 7, 9, 9]), ("worth", 0, 0, 0, 0, 2)), [0, 53, 17])
        self.assertEqual(last(*start, ("act", 0, [0, 9, 9, 9, 9]), ("worth", 0, 0, 0, 0, 2)), [0, 3, 1])
        # With weight 9 of 35 it stays at place 0, and pays the 5 once more.
        self.assertEqual(last(*start, ("act", 0, [-5, 9, 9, 9, 8]), ("worth", 0, 0, 0, 0, 2)), [0, -121, 35])

    def test_each_sum_of_weights(self):
        for total in range(1, 37):
            weights = [total // 4 + (1 if total % 4 > place else 0) for place in range(4)]
            told = last(("begin", 4, 1), ("act", 0, [0] + weights), ("act", 1, [1, 0, 0, 0, 1]),
                        ("act", 2, [1, 0, 0, 0, 1]), ("act", 3, [1, 0, 0, 0, 1]), ("worth", 0, 0, 0, 0, 2))
            self.assertEqual(told[1] * total, told[2] * (total - weights[0]))

    def test_by_another_ones_lights(self):
        told = replies(*TEMPTED, *[("worth", u, 0, s, 0, 1) for u in (0, 1) for s in (0, 1)])
        self.assertEqual(told[5:], [[0, 2, 1], [0, -1, 1], [0, 0, 1], [0, 1, 1]])

    def test_as_good_only_in_the_mean(self):
        # A third of 3 is as much as 1, counted exactly.
        start = (("begin", 3, 1), ("act", 0, [0, 0, 3, 6]), ("act", 0, [1, 0, 0, 7]), ("act", 1, [3, 0, 1, 0]))
        self.assertEqual(replies(*start, ("bests", 0, 0, 0, 2), ("does", 0, 0, 0, 2), ("bests", 0, 0, 0, 1),
                                 ("bests", 0, 0, 0, 3))[4:], [[2, 0, 1], [0], [1, 1], [1, 0]])


class Corners(unittest.TestCase):
    def test_no_acts(self):
        told = replies(("begin", 2, 1), ("act", 1, [1, 1, 0]), ("does", 0, 0, 0, 1), ("does", 0, 0, 1, 4),
                       ("bests", 0, 0, 0, 1), ("bests", 0, 0, 1, 4), ("worth", 0, 0, 0, 0, 0),
                       ("worth", 0, 0, 0, 0, 4), ("worth", 0, 1, 0, 0, 4))
        self.assertEqual(told[2:], [[-33], [-33], [0], [0], [0, 0, 1], [0, 0, 1], [0, 1, 1]])

    def test_0_steps(self):
        told = replies(*ONE_SELF, ("worth", 0, 0, 0, 0, 0), ("worth", 0, 0, 0, 1, 0), ("does", 0, 0, 0, 0),
                       ("bests", 0, 0, 0, 0), ("does", 1, 0, 0, 0), ("bests", 1, 0, 0, 0))
        self.assertEqual(told[3:], [[0, 0, 1], [0, 0, 1], [-22], [-22], [-22], [-22]])

    def test_it_acts_where_every_act_costs(self):
        told = replies(("begin", 2, 1), ("act", 0, [-5, 1, 0]), ("act", 0, [-4, 1, 0]),
                       ("does", 0, 0, 0, 4), ("worth", 0, 0, 0, 0, 4))
        self.assertEqual(told[3:], [[1], [0, -16, 1]])

    def test_turned_into_oneself(self):
        asked = [("does", 0, 0, 0, k) for k in (1, 2, 3, 4)] + [("worth", 0, 0, 0, 0, k) for k in range(5)]
        plain = replies(*ONE_SELF, *asked)
        turned = replies(*ONE_SELF, ("turn", 0, 0, 1), ("turn", 0, 1, 1), *asked)
        self.assertEqual(turned[5:], plain[3:])
        asked = [("worth", u, 0, 0, l, k) for u in (0, 1) for l in (0, 1) for k in range(5)]
        self.assertEqual(replies(*TEMPTED, ("turn", 0, 0, 1), *asked)[6:], replies(*TEMPTED, *asked)[5:])

    def test_opposite_pays(self):
        told = replies(*OPPOSITE, *[("does", 0, s, l, 4) for s in (0, 1) for l in (0, 1)],
                       *[("worth", u, 0, s, 0, 4) for u in (0, 1) for s in (0, 1)])
        self.assertEqual(told[3:], [[0], [0], [1], [1], [0, 4, 1], [0, -4, 1], [0, -4, 1], [0, 4, 1]])

    def test_it_knows_that_later_selves_go_by_theirs(self):
        told = replies(*TEMPTED, *[("does", 0, 0, 0, k) for k in (1, 2, 3, 4)],
                       *[("worth", 0, 0, 0, 0, k) for k in (1, 2, 3, 4)])
        self.assertEqual(told[5:], [[2], [0], [0], [0], [0, 2, 1], [0, 3, 1], [0, 4, 1], [0, 5, 1]])

    def test_locked_and_an_act_that_turns(self):
        told = replies(*TEMPTED, *[("does", 0, 0, 1, k) for k in (1, 2, 3, 4)],
                       *[("worth", 0, 0, 0, 1, k) for k in (1, 2, 3, 4)], ("worth", 1, 0, 0, 1, 4))
        self.assertEqual(told[5:], [[2]] * 4 + [[0, 2, 1], [0, 4, 1], [0, 6, 1], [0, 8, 1], [0, 0, 1]])

    def test_a_self_that_would_be_turned_back(self):
        told = replies(*TURNED_BACK, ("does", 0, 1, 0, 1), ("does", 0, 1, 0, 2), ("does", 0, 1, 1, 2),
                       ("worth", 1, 0, 1, 0, 2), ("worth", 0, 0, 1, 0, 2), ("worth", 1, 0, 1, 1, 2))
        self.assertEqual(told[5:], [[2], [1], [2], [0, 5, 1], [0, 0, 1], [0, 6, 1]])

    def test_an_act_that_locks_keeps_it_who_it_is(self):
        # Act 1 locks: the best act of all no longer turns self 1 back.
        told = replies(*TURNED_BACK, ("lock", 0, 1, 1), ("does", 0, 1, 0, 3), ("worth", 1, 0, 1, 0, 3),
                       ("lock", 0, 1, 0), ("worth", 1, 0, 1, 0, 3))
        self.assertEqual(told[6:], [[1], [0, 8, 1], [1], [0, 7, 1]])

    def test_turns_and_locks(self):
        # Place 0 turns self 0 into self 1; at place 1 each self likes another act, and act 0 there turns back.
        start = (("begin", 2, 2), ("act", 0, [0, 0, 0, 1]), ("turn", 0, 0, 2), ("act", 1, [0, 1, 0, 1]),
                 ("turn", 1, 0, 1), ("act", 1, [3, 0, 0, 1]))
        asked = [("worth", u, 0, 0, l, 3) for u in (0, 1) for l in (0, 1)]
        self.assertEqual(replies(*start, *asked)[6:], [[0, 3, 1], [0, 6, 1], [0, 1, 1], [0, 0, 1]])
        self.assertEqual(replies(*start, ("lock", 0, 0, 1), *asked)[7:],
                         [[0, 0, 1], [0, 6, 1], [0, 2, 1], [0, 0, 1]])

    def test_two_acts_as_good_one_of_which_turns(self):
        staying, turning = ("act", 0, [1, -7, 1, 0]), ("act", 0, [1, 7, 1, 0])
        asked = (("bests", 0, 0, 0, 1), ("does", 0, 0, 0, 1), ("worth", 1, 0, 0, 0, 1),
                 ("bests", 0, 0, 0, 2), ("worth", 0, 0, 0, 0, 2), ("worth", 1, 0, 0, 0, 2))
        told = replies(("begin", 2, 2), turning, staying, ("turn", 0, 0, 2), *asked)
        self.assertEqual(told[4:], [[2, 0, 1], [0], [0, 7, 1], [2, 0, 1], [0, 2, 1], [0, 14, 1]])
        told = replies(("begin", 2, 2), staying, turning, ("turn", 0, 1, 2), *asked)
        self.assertEqual(told[4:], [[2, 0, 1], [0], [0, -7, 1], [2, 0, 1], [0, 2, 1], [0, -14, 1]])

    def test_into_whom_it_turns(self):
        # Place 1 pays each self for another act, and self u by its own lights for its own act alone.
        start = (("begin", 2, 3), ("act", 0, [0, 0, 0, 0, 1]), ("act", 1, [1, 0, 0, 1, 0]),
                 ("act", 1, [0, 1, 0, 1, 0]), ("act", 1, [0, 0, 1, 1, 0]))
        for into in (1, 2, 3):
            for who in (0, 1, 2):
                told = replies(*start, ("turn", 0, 0, into), *[("worth", u, 0, who, 0, 2) for u in (0, 1, 2)],
                               *[("worth", u, 0, who, 1, 2) for u in (0, 1, 2)])
                then = [[0, 1 if u == into - 1 else 0, 1] for u in (0, 1, 2)]
                held = [[0, 1 if u == who else 0, 1] for u in (0, 1, 2)]
                self.assertEqual(told[6:], then + held)


class Refusals(unittest.TestCase):
    # At place 1 there are no acts, so that -33 is due there as well.
    START = (("begin", 2, 2), ("act", 0, [1, 1, 1, 1]))

    def ask(self, *call):
        return last(*self.START, call)

    def test_no_such_place_or_self(self):
        for name in ("does", "bests"):
            for place, who in ((2, 0), (0, 2), (BIG, 0), (0, BIG), (9, 9)):
                self.assertEqual(self.ask(name, place, who, 0, 1), [-2])
        for light, place, who in ((2, 0, 0), (0, 2, 0), (0, 0, 2), (BIG, 0, 0), (0, BIG, 0), (0, 0, BIG)):
            self.assertEqual(self.ask("worth", light, place, who, 0, 1), [-2])

    def test_locked_out_of_range(self):
        for locked in (2, 3, BIG):
            self.assertEqual(self.ask("does", 0, 0, locked, 1), [-22])
            self.assertEqual(self.ask("bests", 0, 0, locked, 1), [-22])
            self.assertEqual(self.ask("worth", 0, 0, 0, locked, 1), [-22])

    def test_steps_out_of_range(self):
        for steps in (5, 6, BIG):
            self.assertEqual(self.ask("does", 0, 0, 0, steps), [-22])
            self.assertEqual(self.ask("bests", 0, 0, 0, steps), [-22])
            self.assertEqual(self.ask("worth", 0, 0, 0, 0, steps), [-22])
        self.assertEqual(self.ask("does", 0, 0, 0, 0), [-22])
        self.assertEqual(self.ask("bests", 0, 0, 0, 0), [-22])
        self.assertEqual(self.ask("worth", 0, 0, 0, 0, 0), [0, 0, 1])

    def test_most_that_is_let(self):
        self.assertEqual(self.ask("does", 0, 1, 1, 4), [0])
        self.assertEqual(self.ask("bests", 0, 1, 1, 4), [1, 0])
        self.assertEqual(self.ask("worth", 1, 1, 1, 1, 4), [0, 0, 1])

    def test_no_such_comes_first(self):
        for name in ("does", "bests"):
            for place, who in ((2, 0), (1, 2)):
                for locked, steps in ((2, 1), (0, 0), (0, 5), (2, 5)):
                    self.assertEqual(self.ask(name, place, who, locked, steps), [-2])
        for light, place, who in ((2, 0, 0), (0, 2, 0), (0, 0, 2)):
            for locked, steps in ((2, 1), (0, 5), (2, 5)):
                self.assertEqual(self.ask("worth", light, place, who, locked, steps), [-2])

    def test_out_of_range_comes_ahead_of_no_acts(self):
        for locked, steps in ((2, 1), (0, 0), (0, 5)):
            self.assertEqual(self.ask("does", 1, 0, locked, steps), [-22])
        self.assertEqual(self.ask("does", 1, 0, 0, 1), [-33])

    def test_they_change_nothing(self):
        told = replies(*self.START, ("actis", 0, 0), ("does", 2, 0, 0, 1), ("bests", 0, 0, 2, 1), ("does", 1, 0, 0, 1),
                       ("worth", 0, 0, 0, 0, 5), ("actis", 0, 0), ("acts", 0), ("acts", 1))
        self.assertEqual(told[2:], [[0, 0, 1, 1, 1, 1], [-2], [-22], [-33], [-22], [0, 0, 1, 1, 1, 1], [1], [0]])


if __name__ == "__main__":
    unittest.main()
