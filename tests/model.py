"""All twenty calls once more, over the oracle's scenes: refusals by a table of letters, answers by fractions."""

from tests.oracle import Scene

# By a call's name: what its whole numbers are, by the document's letters (t, b, n, v are checked one by one).
LETTERS = {
    "begin": "nv", "act": "p", "unact": "pa", "turn": "pat", "lock": "pab", "actis": "pa", "acts": "p",
    "does": "pslk", "bests": "pslk", "worth": "upslk", "brings": "upslak", "lights": "pslk", "ideal": "upk",
    "short": "pslk", "after": "pslk", "selves": "pslk", "turns": "sk", "never": "sk",
    "ifturn": "patqsk", "ifpay": "pauqsk",
}
AT_LEAST_ONE_STEP = ("does", "bests", "brings", "turns")


def told(fraction):
    return [fraction.numerator, fraction.denominator]


class Model:
    """Answers calls as tests name them, one behind another."""

    def __init__(self):
        self.scene = None

    def answer(self, call):
        name, row = call[0], None
        given = dict(zip(LETTERS[name], call[1:]))
        if name in ("act", "ifpay"):
            row = list(call[-1])
        if name == "begin":
            if given["n"] not in (2, 3, 4) or given["v"] not in (1, 2, 3):
                return [-22]
            self.scene = Scene(given["n"], given["v"], [[] for place in range(given["n"])])
            return [0]
        if self.scene is None:
            return [-11]
        refusal = self.refusal(name, given, row)
        if refusal:
            return [refusal]
        if row is not None:
            given["row"] = row
        return getattr(self, "do_" + name)(**given)

    def refusal(self, name, given, row):
        scene = self.scene
        if any(given.get(letter, 0) >= scene.places for letter in "pq"):
            return -2
        if any(given.get(letter, 0) >= scene.selves for letter in "su"):
            return -2
        if "a" in given and given["a"] >= len(scene.acts[given["p"]]):
            return -2
        if given.get("t", 0) > scene.selves or given.get("b", 0) > 1 or given.get("l", 0) > 1:
            return -22
        if given.get("k", 1) > 4 or (name in AT_LEAST_ONE_STEP and given["k"] == 0):
            return -22
        if name == "ifpay" and (len(row) != 1 or abs(row[0]) > 9):
            return -22
        if name == "act" and not self.is_act(row):
            return -22
        if name == "act" and len(scene.acts[given["p"]]) == 3:
            return -28
        if name == "does" and not scene.acts[given["p"]]:
            return -33
        return 0

    def is_act(self, row):
        if len(row) != self.scene.selves + self.scene.places:
            return False
        weights = row[self.scene.selves:]
        return (max(map(abs, row)) <= 9 and min(weights) >= 0 and any(weights))

    def change(self, p, a, act):
        """Put another scene in this one's stead, so that nothing reckoned before is kept."""
        acts = [list(here) for here in self.scene.acts]
        acts[p][a:a + 1] = act
        self.scene = Scene(self.scene.places, self.scene.selves, acts)

    def do_act(self, p, row):
        number = len(self.scene.acts[p])
        self.change(p, number, [(row[:self.scene.selves], row[self.scene.selves:], 0, 0)])
        return [number]

    def do_unact(self, p, a):
        self.change(p, a, [])
        return [len(self.scene.acts[p])]

    def do_turn(self, p, a, t):
        pays, weights, turn, lock = self.scene.acts[p][a]
        self.change(p, a, [(pays, weights, t, lock)])
        return [turn]

    def do_lock(self, p, a, b):
        pays, weights, turn, lock = self.scene.acts[p][a]
        self.change(p, a, [(pays, weights, turn, b)])
        return [lock]

    def do_actis(self, p, a):
        pays, weights, turn, lock = self.scene.acts[p][a]
        return [turn, lock] + pays + weights

    def do_acts(self, p):
        return [len(self.scene.acts[p])]

    def do_does(self, p, s, l, k):
        return self.scene.bests(p, s, l, k)[:1]

    def do_bests(self, p, s, l, k):
        bests = self.scene.bests(p, s, l, k)
        return [len(bests)] + bests

    def do_worth(self, u, p, s, l, k):
        return [0] + told(self.scene.worth(u, p, s, l, k))

    def do_brings(self, u, p, s, l, a, k):
        return [0] + told(self.scene.brings(u, p, s, l, a, k))

    def do_lights(self, p, s, l, k):
        found = [self.scene.selves]
        for light in range(self.scene.selves):
            found += told(self.scene.worth(light, p, s, l, k))
        return found

    def do_ideal(self, u, p, k):
        return [0] + told(self.scene.ideal(u, p, k))

    def do_short(self, p, s, l, k):
        return [0] + told(self.scene.ideal(s, p, k) - self.scene.worth(s, p, s, l, k))

    def do_after(self, p, s, l, k):
        likely = self.scene.after(p, s, l, k)
        stands = [(q, u, m) for q in range(self.scene.places) for u in range(self.scene.selves) for m in (0, 1)]
        found = [len(stands)]
        for stand in stands:
            found += told(likely[stand]) if stand in likely else [0, 1]
        return found

    def do_selves(self, p, s, l, k):
        likely = self.scene.after(p, s, l, k)
        found = [self.scene.selves]
        for who in range(self.scene.selves):
            amount = sum(part for stand, part in likely.items() if stand[1] == who)
            found += [amount.numerator, amount.denominator]
        return found

    def do_turns(self, s, k):
        places = self.scene.turns(s, k)
        return [len(places)] + places

    def do_never(self, s, k):
        return [self.scene.never(s, k)]

    def do_ifturn(self, p, a, t, q, s, k):
        return [0] + told(self.scene.with_turn(p, a, t).worth(s, q, s, 0, k))

    def do_ifpay(self, p, a, u, q, s, k, row):
        return [0] + told(self.scene.with_pay(p, a, u, row[0]).worth(s, q, s, 0, k))
