"""The document's words once more, straight and slow, over exact fractions: what tests compare with."""

from fractions import Fraction
from random import Random


class Scene:
    """Places, selves, and for each place a list of acts (pays, weights, turn, lock)."""

    def __init__(self, places, selves, acts):
        self.places = places
        self.selves = selves
        self.acts = acts
        self.known = {}

    def calls(self):
        """The calls that set it up."""
        listed = [("begin", self.places, self.selves)]
        for place, acts in enumerate(self.acts):
            for number, (pays, weights, turn, lock) in enumerate(acts):
                listed.append(("act", place, list(pays) + list(weights)))
                if turn:
                    listed.append(("turn", place, number, turn))
                if lock:
                    listed.append(("lock", place, number, lock))
        return listed

    def brings(self, light, place, who, locked, act, steps):
        key = ("brings", light, place, who, locked, act, steps)
        if key not in self.known:
            pays, weights, turn, lock = self.acts[place][act]
            then = turn - 1 if turn and not locked else who
            held = 1 if locked or lock else 0
            later = [self.worth(light, q, then, held, steps - 1) for q in range(self.places)]
            mean = sum(Fraction(w, sum(weights)) * x for w, x in zip(weights, later))
            self.known[key] = pays[light] + mean
        return self.known[key]

    def bests(self, place, who, locked, steps):
        brought = [self.brings(who, place, who, locked, a, steps) for a in range(len(self.acts[place]))]
        return [a for a, amount in enumerate(brought) if amount == max(brought)]

    def worth(self, light, place, who, locked, steps):
        if steps == 0 or not self.acts[place]:
            return Fraction(0)
        return self.brings(light, place, who, locked, self.bests(place, who, locked, steps)[0], steps)

    def ideal(self, light, place, steps):
        if steps == 0 or not self.acts[place]:
            return Fraction(0)
        key = ("ideal", light, place, steps)
        if key not in self.known:
            later = [self.ideal(light, q, steps - 1) for q in range(self.places)]
            self.known[key] = max(
                pays[light] + sum(Fraction(w, sum(weights)) * x for w, x in zip(weights, later))
                for pays, weights, turn, lock in self.acts[place])
        return self.known[key]


def random_weights(draw, places):
    while True:
        weights = [draw.choice([0, 0, 1, draw.randint(0, 9)]) for place in range(places)]
        if any(weights):
            return weights


def random_scene(seed, turning=True, like_pays=False):
    """A scene that is the same for the same seed; small pays now and then, so that acts are as good."""
    draw = Random(seed)
    places = draw.randint(2, 4)
    selves = draw.randint(1, 3)
    reach = draw.choice([1, 2, 9])
    acts = []
    for place in range(places):
        here = []
        for number in range(draw.choice([0, 1, 2, 3, 3, 3])):
            pays = [draw.randint(-reach, reach) for who in range(selves)]
            if like_pays:
                pays = [pays[0]] * selves
            turn = draw.randint(0, selves) if turning else 0
            here.append((pays, random_weights(draw, places), turn, draw.choice([0, 0, 1])))
        acts.append(here)
    return Scene(places, selves, acts)
