"""What holds of every board, tried on many; and each answer beside that of the plain oracle."""

import unittest
from fractions import Fraction
from math import gcd

from tests.lines import replies
from tests.oracle import random_scene

SCENES = 120
KNOWN = {}


def asked_of(scene, calls):
    """Hand in the scene's calls and the ones given, as many at a time as are let, and give what these answer."""
    start = scene.calls()
    found = []
    room = 60 - len(start)
    for at in range(0, len(calls), room):
        found += replies(*start, *calls[at:at + room])[len(start):]
    return found


def all_stands(scene):
    return [(p, s, l) for p in range(scene.places) for s in range(scene.selves) for l in (0, 1)]


def worths(scene):
    """What worths_asked gives, asked once for each scene."""
    key = repr((scene.places, scene.selves, scene.acts))
    if key not in KNOWN:
        KNOWN[key] = worths_asked(scene)
    return KNOWN[key]


def worths_asked(scene):
    """What is answered for the worth of each stand: (light, place, who, locked, steps) to a fraction."""
    keys = [(u,) + stand + (k,) for u in range(scene.selves) for stand in all_stands(scene) for k in range(5)]
    told = asked_of(scene, [("worth",) + key for key in keys])
    assert all(len(answer) == 3 and answer[0] == 0 for answer in told)
    return {key: Fraction(answer[1], answer[2]) for key, answer in zip(keys, told)}


class BesideTheOracle(unittest.TestCase):
    def test_worth(self):
        for seed in range(SCENES):
            scene = random_scene(seed)
            for key, amount in worths(scene).items():
                self.assertEqual(amount, scene.worth(*key), (seed, key))

    def test_does_and_bests(self):
        for seed in range(SCENES):
            scene = random_scene(seed)
            keys = [stand + (k,) for stand in all_stands(scene) for k in (1, 2, 3, 4)]
            does = asked_of(scene, [("does",) + key for key in keys])
            bests = asked_of(scene, [("bests",) + key for key in keys])
            for key, done, good in zip(keys, does, bests):
                right = scene.bests(*key)
                self.assertEqual(good, [len(right)] + right, (seed, key))
                self.assertEqual(done, right[:1] or [-33], (seed, key))

    def test_fractions_have_nothing_in_common(self):
        for seed in range(0, SCENES, 4):
            scene = random_scene(seed)
            calls = [("worth", u) + stand + (k,) for u in range(scene.selves)
                     for stand in all_stands(scene) for k in range(5)]
            for answer in asked_of(scene, calls):
                self.assertGreaterEqual(answer[2], 1)
                self.assertEqual(gcd(answer[1], answer[2]), 1)


class WhatHolds(unittest.TestCase):
    def test_nobody_gets_more_than_their_ideal(self):
        for seed in range(SCENES):
            scene = random_scene(seed)
            for (u, p, s, l, k), amount in worths(scene).items():
                self.assertLessEqual(amount, scene.ideal(u, p, k), (seed, u, p, s, l, k))

    def test_locked_it_gets_its_ideal(self):
        for seed in range(SCENES):
            scene = random_scene(seed)
            for (u, p, s, l, k), amount in worths(scene).items():
                if l == 1 and u == s:
                    self.assertEqual(amount, scene.ideal(u, p, k), (seed, p, s, k))

    def test_locked_it_stays_who_it_is(self):
        # Into whom acts turn doesn't matter to one that is locked.
        for seed in range(SCENES):
            turning, plain = random_scene(seed), random_scene(seed)
            plain.acts = [[(pays, weights, 0, 0) for pays, weights, turn, lock in acts] for acts in plain.acts]
            other = worths(plain)
            for key, amount in worths(turning).items():
                if key[3] == 1:
                    self.assertEqual(amount, other[key], (seed, key))

    def test_who_cannot_turn_gets_their_ideal(self):
        for seed in range(SCENES):
            scene = random_scene(seed, turning=False)
            for (u, p, s, l, k), amount in worths(scene).items():
                if u == s:
                    self.assertEqual(amount, scene.ideal(u, p, k), (seed, p, s, l, k))

    def test_with_the_same_pays_everybody_gets_their_ideal(self):
        for seed in range(SCENES):
            scene = random_scene(seed, like_pays=True)
            for (u, p, s, l, k), amount in worths(scene).items():
                self.assertEqual(amount, scene.ideal(u, p, k), (seed, u, p, s, l, k))

    def test_it_does_what_is_best_knowing_what_later_selves_do(self):
        for seed in range(SCENES):
            scene = random_scene(seed)
            told = worths(scene)
            for (u, p, s, l, k), amount in told.items():
                if u != s or k == 0 or not scene.acts[p]:
                    continue
                brought = []
                for pays, weights, turn, lock in scene.acts[p]:
                    then = turn - 1 if turn and not l else s
                    later = [told[(u, q, then, max(l, lock), k - 1)] for q in range(scene.places)]
                    mean = sum(w * x for w, x in zip(weights, later)) / sum(weights)
                    brought.append(pays[u] + mean)
                self.assertEqual(amount, max(brought), (seed, p, s, l, k))


if __name__ == "__main__":
    unittest.main()
