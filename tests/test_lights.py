"""brings, lights, ideal, short: by hand, at ordinary inputs, at the document's corners, and refused."""

import unittest

from tests.lines import last, replies

BIG = 4294967295

# Each of two selves has an act that the other hates; what pays self 0 most turns it into self 1.
OPPOSITE = (("begin", 2, 2), ("act", 0, [1, -1, 1, 0]), ("act", 0, [-1, 1, 1, 0]))
TEMPTED = OPPOSITE + (("act", 0, [2, 0, 1, 0]), ("turn", 0, 2, 2))

# What pays self 1 most turns it back into self 0, who then does what self 1 hates.
TURNED_BACK = (("begin", 2, 2), ("act", 0, [5, -5, 1, 0]), ("act", 0, [0, 2, 1, 0]),
               ("act", 0, [0, 3, 1, 0]), ("turn", 0, 2, 1))

# One self: a third of the way from place 0 to place 1, where each step pays 3.
SLOW = (("begin", 2, 1), ("act", 0, [0, 2, 1]), ("act", 1, [3, 0, 5]))


class Brings(unittest.TestCase):
    def test_each_act_by_each_ones_lights(self):
        told = replies(*TEMPTED, *[("brings", u, 0, 0, 0, a, 2) for u in (0, 1) for a in (0, 1, 2)])
        self.assertEqual(told[5:], [[0, 3, 1], [0, 1, 1], [0, 1, 1], [0, -1, 1], [0, 1, 1], [0, 1, 1]])

    def test_locked_it_does_not_turn(self):
        told = replies(*TEMPTED, *[("brings", u, 0, 0, 1, a, 2) for u in (0, 1) for a in (0, 1, 2)])
        self.assertEqual(told[5:], [[0, 3, 1], [0, 1, 1], [0, 4, 1], [0, -1, 1], [0, 1, 1], [0, 0, 1]])

    def test_one_step_is_the_pay(self):
        told = replies(*TEMPTED, *[("brings", u, 0, s, l, 2, 1) for u in (0, 1) for s in (0, 1) for l in (0, 1)])
        self.assertEqual(told[5:], [[0, 2, 1]] * 4 + [[0, 0, 1]] * 4)

    def test_in_the_mean(self):
        told = replies(*SLOW, *[("brings", 0, 0, 0, 0, 0, k) for k in (1, 2, 3, 4)])
        self.assertEqual(told[3:], [[0, 0, 1], [0, 1, 1], [0, 8, 3], [0, 43, 9]])

    def test_an_act_that_turns_and_locks(self):
        # Turned into self 1 and locked, act 2 can't turn it back, though it is still done.
        told = replies(*TURNED_BACK, ("turn", 0, 0, 2), ("lock", 0, 0, 1), ("brings", 0, 0, 0, 0, 0, 3),
                       ("brings", 1, 0, 0, 0, 0, 3), ("lock", 0, 0, 0), ("brings", 1, 0, 0, 0, 0, 3))
        # Unlocked, self 1 does act 1 with 2 steps left, for act 2 would make it self 0, who pays it -5.
        self.assertEqual(told[7:], [[0, 5, 1], [0, 1, 1], [1], [0, 0, 1]])

    def test_what_is_done_brings_the_worth(self):
        for steps in (1, 2, 3, 4):
            told = replies(*TURNED_BACK, ("does", 0, 1, 0, steps), ("worth", 0, 0, 1, 0, steps))
            brought = last(*TURNED_BACK, ("brings", 0, 0, 1, 0, told[5][0], steps))
            self.assertEqual(brought, told[6])

    def test_refusals(self):
        for call, due in (
                ((2, 0, 0, 0, 0, 1), -2), ((0, 2, 0, 0, 0, 1), -2), ((0, 0, 2, 0, 0, 1), -2), ((0, 0, 0, 0, 3, 1), -2),
                ((0, 1, 0, 0, 0, 1), -2), ((BIG, 0, 0, 0, 0, 1), -2), ((0, BIG, 0, 0, 0, 1), -2),
                ((0, 0, BIG, 0, 0, 1), -2), ((0, 0, 0, 0, BIG, 1), -2), ((0, 0, 0, 2, 0, 1), -22),
                ((0, 0, 0, BIG, 0, 1), -22), ((0, 0, 0, 0, 0, 5), -22), ((0, 0, 0, 0, 0, BIG), -22),
                ((0, 0, 0, 0, 0, 0), -22), ((0, 0, 0, 1, 2, 0), -22)):
            with self.subTest(call=call):
                self.assertEqual(last(*TEMPTED, ("brings",) + call), [due])

    def test_no_such_comes_first(self):
        for light, place, who, number in ((2, 0, 0, 0), (0, 2, 0, 0), (0, 0, 2, 0), (0, 0, 0, 3), (0, 1, 0, 0)):
            for locked, steps in ((2, 1), (0, 0), (0, 5), (2, 5)):
                call = ("brings", light, place, who, locked, number, steps)
                self.assertEqual(last(*TEMPTED, call), [-2], call)


class Lights(unittest.TestCase):
    def test_a_fraction_for_each_self(self):
        told = replies(*TEMPTED, ("lights", 0, 0, 0, 2), ("lights", 0, 1, 0, 2), ("lights", 0, 0, 1, 3))
        self.assertEqual(told[5:], [[2, 3, 1, -1, 1], [2, -2, 1, 2, 1], [2, 6, 1, 0, 1]])

    def test_in_the_mean(self):
        start = (("begin", 2, 3), ("act", 0, [0, 1, -1, 2, 4]), ("act", 1, [3, -4, 0, 0, 1]))
        self.assertEqual(last(*start, ("lights", 0, 2, 0, 2)), [3, 2, 1, -4, 3, -4, 3])

    def test_as_many_as_selves(self):
        for selves in (1, 2, 3):
            told = replies(("begin", 2, selves), ("act", 0, [4] * selves + [1, 1]), ("lights", 0, 0, 0, 1),
                           ("lights", 0, 0, 0, 0), ("lights", 1, 0, 1, 4))
            self.assertEqual(told[2:], [[selves] + [4, 1] * selves] + [[selves] + [0, 1] * selves] * 2)

    def test_opposite_pays(self):
        told = replies(*OPPOSITE, *[("lights", 0, s, l, 3) for s in (0, 1) for l in (0, 1)])
        self.assertEqual(told[3:], [[2, 3, 1, -3, 1]] * 2 + [[2, -3, 1, 3, 1]] * 2)


class Ideal(unittest.TestCase):
    def test_all_acts_by_those_lights(self):
        told = replies(*TEMPTED, *[("ideal", u, 0, k) for u in (0, 1) for k in range(5)])
        self.assertEqual(told[5:], [[0, 2 * k, 1] for k in range(5)] + [[0, k, 1] for k in range(5)])

    def test_in_the_mean(self):
        told = replies(*SLOW, *[("ideal", 0, 0, k) for k in range(5)], ("ideal", 0, 1, 4))
        self.assertEqual(told[3:], [[0, 0, 1], [0, 0, 1], [0, 1, 1], [0, 8, 3], [0, 43, 9], [0, 12, 1]])

    def test_less_now_for_more_later(self):
        start = (("begin", 2, 1), ("act", 0, [1, 1, 0]), ("act", 0, [-1, 0, 1]), ("act", 1, [4, 0, 1]))
        told = replies(*start, *[("ideal", 0, 0, k) for k in range(5)])
        self.assertEqual(told[4:], [[0, 0, 1], [0, 1, 1], [0, 3, 1], [0, 7, 1], [0, 11, 1]])

    def test_an_act_is_done_where_all_cost(self):
        told = replies(("begin", 2, 1), ("act", 0, [-5, 1, 0]), ("act", 0, [-4, 1, 0]), ("ideal", 0, 0, 3))
        self.assertEqual(told[3:], [[0, -12, 1]])

    def test_no_acts(self):
        self.assertEqual(last(*TEMPTED, ("ideal", 0, 1, 4)), [0, 0, 1])

    def test_turning_and_locking_do_not_matter(self):
        plain = replies(*OPPOSITE, ("act", 0, [2, 0, 1, 0]), *[("ideal", u, 0, 4) for u in (0, 1)])
        locks = replies(*TEMPTED, ("lock", 0, 2, 1), ("turn", 0, 1, 1), *[("ideal", u, 0, 4) for u in (0, 1)])
        self.assertEqual(plain[-2:], locks[-2:])

    def test_refusals_and_their_order(self):
        for call, due in (((2, 0, 1), -2), ((0, 2, 1), -2), ((BIG, 0, 1), -2), ((0, BIG, 1), -2), ((2, 0, 5), -2),
                          ((0, 2, 5), -2), ((0, 0, 5), -22), ((1, 1, BIG), -22)):
            with self.subTest(call=call):
                self.assertEqual(last(*TEMPTED, ("ideal",) + call), [due])


class Short(unittest.TestCase):
    def test_by_how_much(self):
        told = replies(*TEMPTED, *[("short", 0, 0, 0, k) for k in range(5)])
        self.assertEqual(told[5:], [[0, 0, 1], [0, 0, 1], [0, 1, 1], [0, 2, 1], [0, 3, 1]])

    def test_a_self_that_would_be_turned_back(self):
        # Ideally act 2 each time, 3 a step; but that's let only to the last step.
        told = replies(*TURNED_BACK, *[("short", 0, 1, 0, k) for k in range(5)])
        self.assertEqual(told[5:], [[0, 0, 1], [0, 0, 1], [0, 1, 1], [0, 2, 1], [0, 3, 1]])

    def test_a_part(self):
        # Self 0 must turn; at place 1, where it comes a third of the time, self 1 leaves it the 0 instead of the 2.
        told = replies(("begin", 2, 2), ("act", 0, [0, 0, 2, 1]), ("turn", 0, 0, 2), ("act", 1, [2, 0, 0, 1]),
                       ("act", 1, [0, 1, 0, 1]), ("short", 0, 0, 0, 2), ("short", 0, 0, 0, 3), ("short", 0, 1, 0, 3))
        self.assertEqual(told[5:], [[0, 2, 3], [0, 16, 9], [0, 0, 1]])

    def test_locked_it_is_0(self):
        for start in (TEMPTED, TURNED_BACK, OPPOSITE):
            told = replies(*start, *[("short", p, s, 1, k) for p in (0, 1) for s in (0, 1) for k in range(5)])
            self.assertEqual(told[len(start):], [[0, 0, 1]] * 20)

    def test_who_cannot_turn_gets_their_ideal(self):
        told = replies(*OPPOSITE, *[("short", 0, s, 0, k) for s in (0, 1) for k in range(5)])
        self.assertEqual(told[3:], [[0, 0, 1]] * 10)
        # Into oneself is not to be turned.
        told = replies(*TEMPTED, *[("short", 0, 1, 0, k) for k in range(5)])
        self.assertEqual(told[5:], [[0, 0, 1]] * 5)

    def test_with_the_same_pays(self):
        told = replies(("begin", 2, 3), ("act", 0, [1, 1, 1, 2, 1]), ("act", 0, [2, 2, 2, 1, 0]), ("turn", 0, 1, 2),
                       ("act", 1, [-3, -3, -3, 1, 5]), ("turn", 1, 0, 3),
                       *[("short", p, s, l, 4) for p in (0, 1) for s in (0, 1, 2) for l in (0, 1)])
        self.assertEqual(told[6:], [[0, 0, 1]] * 12)

    def test_one_self(self):
        told = replies(*SLOW, ("turn", 0, 0, 1), *[("short", 0, 0, 0, k) for k in range(5)])
        self.assertEqual(told[4:], [[0, 0, 1]] * 5)

    def test_no_acts(self):
        self.assertEqual(last(*TEMPTED, ("short", 1, 0, 0, 4)), [0, 0, 1])


class Refusals(unittest.TestCase):
    """Of lights and short, which are handed alike."""

    def test_each(self):
        for name in ("lights", "short"):
            for call, due in (
                    ((2, 0, 0, 1), -2), ((0, 2, 0, 1), -2), ((BIG, 0, 0, 1), -2), ((0, BIG, 0, 1), -2),
                    ((0, 0, 2, 1), -22), ((0, 0, BIG, 1), -22), ((0, 0, 0, 5), -22), ((0, 0, 1, BIG), -22)):
                with self.subTest(name=name, call=call):
                    self.assertEqual(last(*TEMPTED, (name,) + call), [due])

    def test_no_such_comes_first(self):
        for name in ("lights", "short"):
            for place, who in ((2, 0), (0, 2)):
                for locked, steps in ((2, 1), (0, 5), (2, 5)):
                    self.assertEqual(last(*TEMPTED, (name, place, who, locked, steps)), [-2])

    def test_0_steps_are_let(self):
        told = replies(*TEMPTED, ("lights", 0, 1, 1, 0), ("ideal", 1, 0, 0), ("short", 0, 0, 0, 0))
        self.assertEqual(told[5:], [[2, 0, 1, 0, 1], [0, 0, 1], [0, 0, 1]])

    def test_they_change_nothing(self):
        told = replies(*TEMPTED, ("brings", 0, 0, 0, 0, 2, 4), ("lights", 0, 0, 0, 4), ("ideal", 0, 0, 4),
                       ("short", 0, 0, 0, 4), ("brings", 2, 0, 0, 0, 2, 4), ("lights", 0, 0, 2, 4), ("ideal", 0, 0, 5),
                       ("short", 2, 0, 0, 4), *[("actis", 0, a) for a in (0, 1, 2)], ("acts", 0), ("acts", 1))
        self.assertEqual(told[9:], [[-2], [-22], [-22], [-2], [0, 0, 1, -1, 1, 0], [0, 0, -1, 1, 1, 0],
                                    [2, 0, 2, 0, 1, 0], [3], [0]])


if __name__ == "__main__":
    unittest.main()
