"""ifturn, ifpay: beside what turn, or an act with that pay, and then worth answer; and refused."""

import unittest

from tests.lines import last, replies
from tests.oracle import random_scene

BIG = 4294967295
HUGE = 10 ** 30

# What pays self 0 most turns it into self 1, who does what self 0 hates.
TEMPTED = (("begin", 2, 2), ("act", 0, [1, -1, 1, 0]), ("act", 0, [-1, 1, 1, 0]), ("act", 0, [2, 0, 1, 0]),
           ("turn", 0, 2, 2))


def acts_of(scene):
    return [(p, a) for p in range(scene.places) for a in range(len(scene.acts[p]))]


def owns(scene):
    """How each self stands at each place, not locked."""
    return [(q, s) for q in range(scene.places) for s in range(scene.selves)]


def all_told(scene):
    """Calls that tell all of a scene, and a part of what is done in it."""
    listed = [("acts", p) for p in range(scene.places)] + [("actis", p, a) for p, a in acts_of(scene)]
    listed += [("worth", 0, 0, s, 0, 3) for s in range(scene.selves)]
    return listed + [("does", p, 0, 0, 3) for p in range(scene.places)]


class IfTurn(unittest.TestCase):
    def test_by_hand(self):
        told = replies(*TEMPTED, *[("ifturn", 0, 2, t, 0, 0, k) for t in (0, 1, 2) for k in (0, 1, 2, 3)])
        free = [[0, 0, 1], [0, 2, 1], [0, 4, 1], [0, 6, 1]]
        self.assertEqual(told[5:], free + free + [[0, 0, 1], [0, 2, 1], [0, 3, 1], [0, 4, 1]])

    def test_what_another_self_does_then(self):
        # Into self 0, act 1 gives self 1 away; it then pays 1, and -1 by act 0, or 0 by act 2, behind it.
        told = replies(*TEMPTED, ("worth", 1, 0, 1, 0, 2), ("ifturn", 0, 1, 1, 0, 1, 2), ("ifturn", 0, 1, 2, 0, 1, 2))
        self.assertEqual(told[5:], [[0, 2, 1], [0, 1, 1], [0, 2, 1]])

    def test_it_still_locks(self):
        told = replies(*TEMPTED, ("turn", 0, 2, 0), ("lock", 0, 2, 1), ("ifturn", 0, 2, 2, 0, 0, 2), ("turn", 0, 2, 2),
                       ("worth", 0, 0, 0, 0, 2))
        self.assertEqual(told[7], told[9])

    def test_another_place_is_asked(self):
        told = replies(("begin", 2, 2), ("act", 0, [0, 0, 0, 1]), ("act", 1, [3, 0, 0, 1]), ("act", 1, [0, 3, 0, 1]),
                       *[("ifturn", 0, 0, t, q, 0, 2) for t in (0, 1, 2) for q in (0, 1)])
        self.assertEqual(told[4:], [[0, 3, 1], [0, 6, 1], [0, 3, 1], [0, 6, 1], [0, 0, 1], [0, 6, 1]])

    def test_like_turn_and_then_worth(self):
        for seed in range(40):
            scene = random_scene(seed)
            start = scene.calls()
            for p, a in acts_of(scene)[seed % 2::2]:
                for t in range(scene.selves + 1):
                    asked = owns(scene)
                    k = (p + a + t + seed) % 5
                    ifs = replies(*start, *[("ifturn", p, a, t, q, s, k) for q, s in asked])[len(start):]
                    done = replies(*start, ("turn", p, a, t), *[("worth", s, q, s, 0, k) for q, s in asked])
                    self.assertEqual(ifs, done[len(start) + 1:], (seed, p, a, t, k))

    def test_all_stands_as_it_was(self):
        for seed in range(40):
            scene = random_scene(seed)
            if not acts_of(scene):
                continue
            p, a = acts_of(scene)[-1]
            told = all_told(scene)
            ifs = [("ifturn", p, a, t, 0, 0, 4) for t in range(scene.selves + 2)]
            plain = last_of(scene, told, [])
            self.assertEqual(last_of(scene, told, ifs), plain, seed)


def last_of(scene, told, ahead):
    """What is told once the calls ahead of it have been answered, asked in pieces for a line's length."""
    start = scene.calls() + ahead
    found = []
    for at in range(0, len(told), 10):
        found += replies(*start, *told[at:at + 10])[len(start):]
    return found


class IfPay(unittest.TestCase):
    def test_by_hand(self):
        told = replies(*TEMPTED, *[("ifpay", 0, 0, 0, 0, 0, k, [pay]) for pay in (-9, 1, 9) for k in (0, 1, 2)])
        # With -9 it does act 2 and is then at self 1's mercy, or act 1 first.
        self.assertEqual(told[5:], [[0, 0, 1], [0, 2, 1], [0, 1, 1], [0, 0, 1], [0, 2, 1], [0, 3, 1],
                                    [0, 0, 1], [0, 9, 1], [0, 18, 1]])

    def test_another_ones_pay(self):
        # If act 2 paid self 1 most, it too would do it, and turning would cost self 0 nothing later.
        told = replies(*TEMPTED, ("ifpay", 0, 2, 1, 0, 0, 2, [9]), ("ifpay", 0, 2, 1, 0, 0, 4, [9]),
                       ("ifpay", 0, 2, 1, 0, 1, 2, [9]), ("worth", 0, 0, 0, 0, 2), ("worth", 0, 0, 0, 0, 4))
        self.assertEqual(told[5:], [[0, 4, 1], [0, 8, 1], [0, 18, 1], [0, 3, 1], [0, 5, 1]])

    def test_only_that_ones_pay(self):
        told = replies(("begin", 2, 3), ("act", 0, [1, 2, 3, 1, 0]),
                       *[("ifpay", 0, 0, u, 0, s, 1, [7]) for u in (0, 1, 2) for s in (0, 1, 2)])
        pays = [[7, 2, 3], [1, 7, 3], [1, 2, 7]]
        self.assertEqual(told[2:], [[0, pays[u][s], 1] for u in (0, 1, 2) for s in (0, 1, 2)])

    def test_each_pay_that_is_let(self):
        told = replies(("begin", 2, 1), ("act", 0, [1, 1, 0]), *[("ifpay", 0, 0, 0, 0, 0, 1, [n]) for n in range(-9, 10)])
        self.assertEqual(told[2:], [[0, n, 1] for n in range(-9, 10)])

    def test_it_still_turns_and_locks(self):
        start = (("begin", 2, 2), ("act", 0, [0, 0, 0, 1]), ("turn", 0, 0, 2), ("act", 1, [3, 0, 0, 1]),
                 ("act", 1, [0, 1, 0, 1]), ("turn", 1, 1, 1))
        told = replies(*start, ("ifpay", 0, 0, 0, 0, 0, 3, [5]), ("lock", 0, 0, 1), ("ifpay", 0, 0, 0, 0, 0, 3, [5]))
        self.assertEqual(told[6:], [[0, 8, 1], [0], [0, 5, 1]])

    def test_like_an_act_with_that_pay_and_then_worth(self):
        for seed in range(40):
            scene = random_scene(seed)
            start = scene.calls()
            for p, a in acts_of(scene)[seed % 2::2]:
                for u in range(scene.selves):
                    asked = owns(scene)
                    k = (p + a + u + seed) % 5
                    pay = (seed * 7 + p * 5 + a * 3 + u) % 19 - 9
                    other = scene.with_pay(p, a, u, pay).calls()
                    ifs = replies(*start, *[("ifpay", p, a, u, q, s, k, [pay]) for q, s in asked])[len(start):]
                    done = replies(*other, *[("worth", s, q, s, 0, k) for q, s in asked])[len(other):]
                    self.assertEqual(ifs, done, (seed, p, a, u, k, pay))

    def test_all_stands_as_it_was(self):
        for seed in range(40):
            scene = random_scene(seed)
            if not acts_of(scene):
                continue
            p, a = acts_of(scene)[0]
            told = all_told(scene)
            ifs = [("ifpay", p, a, u, 0, 0, 4, [pay]) for u in range(scene.selves) for pay in (-9, 9, 10)]
            plain = last_of(scene, told, [])
            self.assertEqual(last_of(scene, told, ifs), plain, seed)


class Refusals(unittest.TestCase):
    def test_ifturn(self):
        for call, due in (
                ((2, 0, 0, 0, 0, 1), -2), ((0, 3, 0, 0, 0, 1), -2), ((1, 0, 0, 0, 0, 1), -2), ((0, 0, 0, 2, 0, 1), -2),
                ((0, 0, 0, 0, 2, 1), -2), ((BIG, 0, 0, 0, 0, 1), -2), ((0, BIG, 0, 0, 0, 1), -2),
                ((0, 0, 0, BIG, 0, 1), -2), ((0, 0, 0, 0, BIG, 1), -2), ((0, 0, 3, 0, 0, 1), -22),
                ((0, 0, BIG, 0, 0, 1), -22), ((0, 0, 0, 0, 0, 5), -22), ((0, 0, 2, 1, 1, BIG), -22),
                ((0, 0, 3, 0, 0, 5), -22)):
            with self.subTest(call=call):
                self.assertEqual(last(*TEMPTED, ("ifturn",) + call), [due])

    def test_ifturn_no_such_comes_first(self):
        for place, number, asked, who in ((2, 0, 0, 0), (0, 3, 0, 0), (0, 0, 2, 0), (0, 0, 0, 2)):
            for into, steps in ((3, 1), (0, 5), (3, 5)):
                self.assertEqual(last(*TEMPTED, ("ifturn", place, number, into, asked, who, steps)), [-2])

    def test_ifpay(self):
        for call, due in (
                ((2, 0, 0, 0, 0, 1), -2), ((0, 3, 0, 0, 0, 1), -2), ((1, 0, 0, 0, 0, 1), -2), ((0, 0, 2, 0, 0, 1), -2),
                ((0, 0, 0, 2, 0, 1), -2), ((0, 0, 0, 0, 2, 1), -2), ((BIG, 0, 0, 0, 0, 1), -2),
                ((0, BIG, 0, 0, 0, 1), -2), ((0, 0, BIG, 0, 0, 1), -2), ((0, 0, 0, BIG, 0, 1), -2),
                ((0, 0, 0, 0, BIG, 1), -2), ((0, 0, 0, 0, 0, 5), -22), ((0, 0, 1, 1, 1, BIG), -22)):
            with self.subTest(call=call):
                self.assertEqual(last(*TEMPTED, ("ifpay",) + call + ([3],)), [due])

    def test_ifpay_rows(self):
        rows = ([], [1, 2], [1, 2, 3], [1, 2, 3, 4], [0, 0], [10], [-10], [HUGE], [-HUGE], [HUGE, -HUGE, HUGE, -HUGE])
        for row in rows:
            with self.subTest(row=row):
                told = replies(*TEMPTED, ("ifpay", 0, 0, 0, 0, 0, 1, row), ("acts", 0))
                self.assertEqual(told[5:], [[-22], [3]])
                self.assertEqual(last(*TEMPTED, ("ifpay", 0, 0, 0, 0, 0, 5, row)), [-22])

    def test_ifpay_no_such_comes_first(self):
        for given in ((2, 0, 0, 0, 0), (0, 3, 0, 0, 0), (0, 0, 2, 0, 0), (0, 0, 0, 2, 0), (0, 0, 0, 0, 2)):
            for steps, row in ((1, []), (1, [10]), (5, [1]), (5, [1, 1]), (5, [-HUGE] * 4)):
                self.assertEqual(last(*TEMPTED, ("ifpay",) + given + (steps, row)), [-2])

    def test_0_steps_are_let(self):
        told = replies(*TEMPTED, ("ifturn", 0, 0, 1, 0, 0, 0), ("ifpay", 0, 0, 0, 0, 0, 0, [9]))
        self.assertEqual(told[5:], [[0, 0, 1], [0, 0, 1]])

    def test_a_place_without_acts_may_be_asked(self):
        told = replies(*TEMPTED, ("ifturn", 0, 0, 1, 1, 0, 4), ("ifpay", 0, 0, 0, 1, 0, 4, [9]))
        self.assertEqual(told[5:], [[0, 0, 1], [0, 0, 1]])


if __name__ == "__main__":
    unittest.main()
