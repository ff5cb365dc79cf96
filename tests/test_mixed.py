"""Lines of 60 calls that mix all twenty, let and refused, beside the model's answers."""

import unittest
from random import Random

from selveshelper.turning import answers
from tests.lines import NAMES, flat, split
from tests.model import LETTERS, Model

BIG = 4294967295
HUGE = 10 ** 30
LINES = 150


def one_number(draw, letter, scene):
    """A number for the letter, mostly one that is let."""
    if draw.random() < 0.04:
        return draw.choice([0, 1, 2, 3, 4, 5, 6, BIG])
    if letter in "pq":
        return draw.randrange(scene.places)
    if letter in "su":
        return draw.randrange(scene.selves)
    if letter == "t":
        return draw.randint(0, scene.selves)
    return draw.randint(0, {"a": 2, "b": 1, "l": 1, "k": 4}[letter])


def one_row(draw, name, scene):
    if draw.random() < 0.06:
        most = 9 if name == "act" else 4
        return [draw.choice([0, 1, 9, 10, -1, -9, -10, HUGE, -HUGE]) for number in range(draw.randint(0, most))]
    if name == "ifpay":
        return [draw.randint(-9, 9)]
    reach = draw.choice([1, 3, 9])
    return ([draw.randint(-reach, reach) for who in range(scene.selves)]
            + [draw.choice([0, 1, draw.randint(0, 9)]) for place in range(scene.places)])


def one_call(draw, name, scene):
    if name == "begin":
        return ("begin", draw.randint(2, 4) if draw.random() < 0.7 else draw.choice([0, 1, 5, BIG]),
                draw.randint(1, 3) if draw.random() < 0.7 else draw.choice([0, 4, BIG]))
    call = (name,) + tuple(one_number(draw, letter, scene) for letter in LETTERS[name])
    return call + (one_row(draw, name, scene),) if name in ("act", "ifpay") else call


class AnyScene:
    """What numbers are drawn by as long as nothing is begun."""

    places = 3
    selves = 2


def mixed_line(seed):
    """60 calls, each of the twenty among them, and what the model answers."""
    draw = Random(seed)
    names = list(NAMES[1:]) + [draw.choice(NAMES[2:]) for number in range(20)]
    draw.shuffle(names)
    # Acts come early, and a begin ahead of most of them, so that there is something to ask of.
    names = ([draw.choice(NAMES) for number in range(draw.randint(0, 2))] + ["begin"] + ["act"] * 8
             + [draw.choice(["turn", "lock", "act"]) for number in range(6)] + names)
    names += [draw.choice(NAMES) for number in range(60 - len(names))]
    model = Model()
    calls, right = [], []
    for name in names:
        call = one_call(draw, name, model.scene or AnyScene)
        if name == "begin" and model.scene is None:
            call = ("begin", draw.randint(2, 4), draw.randint(1, 3))
        calls.append(call)
        right.append(model.answer(call))
    return calls, right


class Mixed(unittest.TestCase):
    def test_beside_the_model(self):
        for seed in range(LINES):
            calls, right = mixed_line(seed)
            self.assertEqual(len(calls), 60)
            self.assertEqual({call[0] for call in calls}, set(NAMES))
            told = split(answers(flat(calls)))
            self.assertEqual(len(told), 60)
            for number, (call, one, other) in enumerate(zip(calls, told, right)):
                self.assertEqual(one, other, (seed, number, call))

    def test_the_lines_hold_what_they_should(self):
        # Every call is answered and refused somewhere in the lines, with each of its refusals.
        seen = {}
        for seed in range(LINES):
            for call, answer in zip(*mixed_line(seed)):
                seen.setdefault(call[0], set()).add(min(answer[0], 0))
        for name in NAMES:
            due = {0} if name == "begin" else {0, -11, -2}
            # These three have nothing that could be out of range.
            if name not in ("unact", "actis", "acts"):
                due.add(-22)
            due |= {"act": {-28}, "does": {-33}}.get(name, set())
            self.assertLessEqual(due, seen[name], name)

    def test_handed_in_stays_and_a_second_time_is_like_the_first(self):
        for seed in range(0, LINES, 5):
            calls = flat(mixed_line(seed)[0])
            before = list(calls)
            first = answers(calls)
            self.assertEqual(calls, before)
            right = list(first)
            first.clear()
            self.assertEqual(answers([17, 0, 1]), [1, -11])
            self.assertEqual(answers(calls), right)
            self.assertEqual(calls, before)


if __name__ == "__main__":
    unittest.main()
