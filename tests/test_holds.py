"""What holds of every board, tried on many; and each answer beside that of the plain oracle."""

import unittest
from fractions import Fraction
from math import gcd

from tests.lines import replies
from tests.model import Model, told
from tests.oracle import random_scene

SCENES = 120
KNOWN = {}


def asked_of(scene, calls):
    """Hand in the scene's calls and the ones given, as many at a time as are let, and give what these answer."""
    start = scene.calls()
    found = []
    room = 60 - len(start)
    for at in range(0, len(calls), room):
        found += replies(*start, *calls[at:at + room])[len(start):]
    return found


def all_stands(scene):
    return [(p, s, l) for p in range(scene.places) for s in range(scene.selves) for l in (0, 1)]


def worths(scene):
    """What worths_asked gives, asked once for each scene."""
    key = repr((scene.places, scene.selves, scene.acts))
    if key not in KNOWN:
        KNOWN[key] = worths_asked(scene)
    return KNOWN[key]


def worths_asked(scene):
    """What is answered for the worth of each stand: (light, place, who, locked, steps) to a fraction."""
    keys = [(u,) + stand + (k,) for u in range(scene.selves) for stand in all_stands(scene) for k in range(5)]
    found = asked_of(scene, [("worth",) + key for key in keys])
    assert all(len(answer) == 3 and answer[0] == 0 for answer in found)
    return {key: Fraction(answer[1], answer[2]) for key, answer in zip(keys, found)}


class BesideTheOracle(unittest.TestCase):
    def test_worth(self):
        for seed in range(SCENES):
            scene = random_scene(seed)
            for key, amount in worths(scene).items():
                self.assertEqual(amount, scene.worth(*key), (seed, key))

    def test_does_and_bests(self):
        for seed in range(SCENES):
            scene = random_scene(seed)
            keys = [stand + (k,) for stand in all_stands(scene) for k in (1, 2, 3, 4)]
            does = asked_of(scene, [("does",) + key for key in keys])
            bests = asked_of(scene, [("bests",) + key for key in keys])
            for key, done, good in zip(keys, does, bests):
                right = scene.bests(*key)
                self.assertEqual(good, [len(right)] + right, (seed, key))
                self.assertEqual(done, right[:1] or [-33], (seed, key))

    def test_fractions_have_nothing_in_common(self):
        for seed in range(0, SCENES, 4):
            scene = random_scene(seed)
            calls = [("worth", u) + stand + (k,) for u in range(scene.selves)
                     for stand in all_stands(scene) for k in range(5)]
            for answer in asked_of(scene, calls):
                self.assertGreaterEqual(answer[2], 1)
                self.assertEqual(gcd(answer[1], answer[2]), 1)

    def test_brings(self):
        for seed in range(0, SCENES, 3):
            scene = random_scene(seed)
            keys = [(u, p, s, l, a, k) for u in range(scene.selves) for p, s, l in all_stands(scene)
                    for a in range(len(scene.acts[p])) for k in (1, 2 + seed % 3)]
            for key, answer in zip(keys, asked_of(scene, [("brings",) + key for key in keys])):
                self.assertEqual(answer, [0] + told(scene.brings(*key)), (seed, key))

    def test_all_that_is_asked_of_a_stand(self):
        for seed in range(0, SCENES, 2):
            scene = random_scene(seed)
            model = Model()
            model.scene = scene
            calls = [(name,) + stand + (k,) for name in ("lights", "short", "after", "selves")
                     for stand in all_stands(scene) for k in (0, 1 + seed // 2 % 2, 3 + seed // 2 % 2)]
            for call, answer in zip(calls, asked_of(scene, calls)):
                self.assertEqual(answer, model.answer(call), (seed, call))

    def test_ideal_turns_and_never(self):
        for seed in range(SCENES):
            scene = random_scene(seed)
            model = Model()
            model.scene = scene
            calls = [("ideal", u, p, k) for u in range(scene.selves) for p in range(scene.places) for k in range(5)]
            calls += [("turns", s, k) for s in range(scene.selves) for k in (1, 2, 3, 4)]
            calls += [("never", s, k) for s in range(scene.selves) for k in range(5)]
            for call, answer in zip(calls, asked_of(scene, calls)):
                self.assertEqual(answer, model.answer(call), (seed, call))


class WhatHolds(unittest.TestCase):
    def test_nobody_gets_more_than_their_ideal(self):
        for seed in range(SCENES):
            scene = random_scene(seed)
            for (u, p, s, l, k), amount in worths(scene).items():
                self.assertLessEqual(amount, scene.ideal(u, p, k), (seed, u, p, s, l, k))

    def test_locked_it_gets_its_ideal(self):
        for seed in range(SCENES):
            scene = random_scene(seed)
            for (u, p, s, l, k), amount in worths(scene).items():
                if l == 1 and u == s:
                    self.assertEqual(amount, scene.ideal(u, p, k), (seed, p, s, k))

    def test_locked_it_stays_who_it_is(self):
        # Into whom acts turn doesn't matter to one that is locked.
        for seed in range(SCENES):
            turning, plain = random_scene(seed), random_scene(seed)
            plain.acts = [[(pays, weights, 0, 0) for pays, weights, turn, lock in acts] for acts in plain.acts]
            other = worths(plain)
            for key, amount in worths(turning).items():
                if key[3] == 1:
                    self.assertEqual(amount, other[key], (seed, key))

    def test_who_cannot_turn_gets_their_ideal(self):
        for seed in range(SCENES):
            scene = random_scene(seed, turning=False)
            for (u, p, s, l, k), amount in worths(scene).items():
                if u == s:
                    self.assertEqual(amount, scene.ideal(u, p, k), (seed, p, s, l, k))

    def test_with_the_same_pays_everybody_gets_their_ideal(self):
        for seed in range(SCENES):
            scene = random_scene(seed, like_pays=True)
            for (u, p, s, l, k), amount in worths(scene).items():
                self.assertEqual(amount, scene.ideal(u, p, k), (seed, u, p, s, l, k))

    def test_it_does_what_is_best_knowing_what_later_selves_do(self):
        for seed in range(SCENES):
            scene = random_scene(seed)
            known = worths(scene)
            for (u, p, s, l, k), amount in known.items():
                if u != s or k == 0 or not scene.acts[p]:
                    continue
                brought = []
                for pays, weights, turn, lock in scene.acts[p]:
                    then = turn - 1 if turn and not l else s
                    later = [known[(u, q, then, max(l, lock), k - 1)] for q in range(scene.places)]
                    mean = sum(w * x for w, x in zip(weights, later)) / sum(weights)
                    brought.append(pays[u] + mean)
                self.assertEqual(amount, max(brought), (seed, p, s, l, k))

    def test_by_nobodys_lights_comes_more_than_the_answered_ideal(self):
        for seed in range(SCENES):
            scene = random_scene(seed)
            keys = [(u, p, k) for u in range(scene.selves) for p in range(scene.places) for k in range(5)]
            ideals = dict(zip(keys, asked_of(scene, [("ideal",) + key for key in keys])))
            for (u, p, s, l, k), amount in worths(scene).items():
                ideal = Fraction(ideals[(u, p, k)][1], ideals[(u, p, k)][2])
                self.assertLessEqual(amount, ideal, (seed, u, p, s, l, k))
                if l == 1 and u == s:
                    self.assertEqual(amount, ideal, (seed, u, p, k))

    def test_short_is_0_or_more_and_locked_0(self):
        above = 0
        for seed in range(SCENES):
            scene = random_scene(seed)
            stands = all_stands(scene)
            for (p, s, l), answer in zip(stands, asked_of(scene, [("short",) + stand + (4,) for stand in stands])):
                self.assertGreaterEqual(answer[1], 0, (seed, p, s, l))
                above += answer[1] > 0
                if l == 1:
                    self.assertEqual(answer, [0, 0, 1], (seed, p, s))
        self.assertGreater(above, 0)

    def test_nobody_is_short_who_cannot_turn_or_whose_pays_are_the_same(self):
        for seed in range(SCENES):
            for scene in (random_scene(seed, turning=False), random_scene(seed, like_pays=True)):
                stands = all_stands(scene)
                for answer in asked_of(scene, [("short",) + stand + (1 + seed % 4,) for stand in stands]):
                    self.assertEqual(answer, [0, 0, 1], seed)

    def test_one_whom_no_act_makes_another_gets_their_ideal(self):
        # Acts turn into self 0 alone, so that self 0 can't turn, whatever the others do.
        for seed in range(SCENES):
            scene = random_scene(seed)
            scene.acts = [[(pays, weights, min(turn, 1), lock) for pays, weights, turn, lock in acts]
                          for acts in scene.acts]
            calls = [("short", p, 0, 0, 4) for p in range(scene.places)] + [("never", 0, 4)]
            self.assertEqual(asked_of(scene, calls), [[0, 0, 1]] * scene.places + [[1]], seed)

    def test_it_is_surely_somebody_somewhere(self):
        for seed in range(SCENES):
            scene = random_scene(seed)
            stands = all_stands(scene)
            for name in ("after", "selves"):
                calls = [(name,) + stand + (1 + seed % 4,) for stand in stands]
                for answer in asked_of(scene, calls):
                    parts = [Fraction(answer[at], answer[at + 1]) for at in range(1, len(answer), 2)]
                    self.assertEqual(sum(parts), 1, (seed, name))
                    self.assertGreaterEqual(min(parts), 0)
                    self.assertEqual(len(parts), len(stands) if name == "after" else scene.selves)

    def test_locked_it_stays_locked_and_who_it_is(self):
        for seed in range(SCENES):
            scene = random_scene(seed)
            stands = all_stands(scene)
            held = [stand for stand in stands if stand[2] == 1]
            for (p, s, l), answer in zip(held, asked_of(scene, [("after",) + stand + (4,) for stand in held])):
                for number, (q, who, locked) in enumerate(stands):
                    if (who, locked) != (s, 1):
                        self.assertEqual(answer[1 + 2 * number:3 + 2 * number], [0, 1], (seed, p, s))


if __name__ == "__main__":
    unittest.main()
