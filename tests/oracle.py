"""The document's words once more, straight and slow, over exact fractions: what tests compare with."""

from fractions import Fraction
from random import Random


class Scene:
    """Places, selves, and for each place a list of acts (pays, weights, turn, lock)."""

    def __init__(self, places, selves, acts):
        self.places = places
        self.selves = selves
        self.acts = acts
        self.known = {}

    def calls(self):
        """The calls that set it up."""
        listed = [("begin", self.places, self.selves)]
        for place, acts in enumerate(self.acts):
            for number, (pays, weights, turn, lock) in enumerate(acts):
                listed.append(("act", place, list(pays) + list(weights)))
                if turn:
                    listed.append(("turn", place, number, turn))
                if lock:
                    listed.append(("lock", place, number, lock))
        return listed

    def brings(self, light, place, who, locked, act, steps):
        key = ("brings", light, place, who, locked, act, steps)
        if key not in self.known:
            pays, weights, turn, lock = self.acts[place][act]
            then = turn - 1 if turn and not locked else who
            held = 1 if locked or lock else 0
            later = [self.worth(light, q, then, held, steps - 1) for q in range(self.places)]
            mean = sum(Fraction(w, sum(weights)) * x for w, x in zip(weights, later))
            self.known[key] = pays[light] + mean
        return self.known[key]

    def bests(self, place, who, locked, steps):
        brought = [self.brings(who, place, who, locked, a, steps) for a in range(len(self.acts[place]))]
        return [a for a, amount in enumerate(brought) if amount == max(brought)]

    def worth(self, light, place, who, locked, steps):
        if steps == 0 or not self.acts[place]:
            return Fraction(0)
        return self.brings(light, place, who, locked, self.bests(place, who, locked, steps)[0], steps)

    def ideal(self, light, place, steps):
        if steps == 0 or not self.acts[place]:
            return Fraction(0)
        key = ("ideal", light, place, steps)
        if key not in self.known:
            later = [self.ideal(light, q, steps - 1) for q in range(self.places)]
            self.known[key] = max(
                pays[light] + sum(Fraction(w, sum(weights)) * x for w, x in zip(weights, later))
                for pays, weights, turn, lock in self.acts[place])
        return self.known[key]

    def after(self, place, who, locked, steps):
        """Stand to likelihood, only the stands that may come; walked path by path."""
        if steps == 0 or not self.acts[place]:
            return {(place, who, locked): Fraction(1)}
        key = ("after", place, who, locked, steps)
        if key not in self.known:
            pays, weights, turn, lock = self.acts[place][self.bests(place, who, locked, steps)[0]]
            then = turn - 1 if turn and not locked else who
            held = 1 if locked or lock else 0
            found = {}
            for q in range(self.places):
                if weights[q]:
                    for stand, likely in self.after(q, then, held, steps - 1).items():
                        found[stand] = found.get(stand, 0) + Fraction(weights[q], sum(weights)) * likely
            self.known[key] = found
        return self.known[key]

    def turns(self, who, steps):
        found = []
        for place in range(self.places):
            bests = self.bests(place, who, 0, steps)
            if bests and self.acts[place][bests[0]][2] not in (0, who + 1):
                found.append(place)
        return found

    def never(self, who, steps):
        return 0 if any(self.turns(who, k) for k in range(1, steps + 1)) else 1

    def changed(self, place, number, pays=None, turn=None):
        """Another scene, in which one act has these pays, or turns so."""
        acts = [list(here) for here in self.acts]
        old = acts[place][number]
        acts[place][number] = (old[0] if pays is None else pays, old[1], old[2] if turn is None else turn, old[3])
        return Scene(self.places, self.selves, acts)

    def with_turn(self, place, number, turn):
        return self.changed(place, number, turn=turn)

    def with_pay(self, place, number, light, pay):
        pays = list(self.acts[place][number][0])
        pays[light] = pay
        return self.changed(place, number, pays=pays)


def random_weights(draw, places):
    while True:
        weights = [draw.choice([0, 0, 1, draw.randint(0, 9)]) for place in range(places)]
        if any(weights):
            return weights


def random_scene(seed, turning=True, like_pays=False):
    """A scene that is the same for the same seed; small pays now and then, so that acts are as good."""
    draw = Random(seed)
    places = draw.randint(2, 4)
    selves = draw.randint(1, 3)
    reach = draw.choice([1, 2, 9])
    acts = []
    for place in range(places):
        here = []
        for number in range(draw.choice([0, 1, 2, 3, 3, 3])):
            pays = [draw.randint(-reach, reach) for who in range(selves)]
            if like_pays:
                pays = [pays[0]] * selves
            turn = draw.randint(0, selves) if turning else 0
            here.append((pays, random_weights(draw, places), turn, draw.choice([0, 0, 1])))
        acts.append(here)
    return Scene(places, selves, acts)
