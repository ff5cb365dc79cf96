"""What places are worth if all acts are chosen by one self's lights."""

from selveshelper.outlook import PARTS


class Ideals:
    """What each place is ideally worth with some steps left: a whole number of parts, scale to 1."""

    def __init__(self, scale, amounts):
        self.scale = scale
        self.amounts = amounts


def ideally_brought(act, light, later):
    """Give the most that may come of an act by the lights of self light, in parts PARTS times as fine as later's."""
    share = PARTS // sum(act.weights)
    brought = act.pays[light] * PARTS * later.scale
    for place, weight in enumerate(act.weights):
        brought += weight * share * later.amounts[place]
    return brought


def most_brought(acts, light, later):
    """Give what the best of the acts ideally brings, or 0 if there are none."""
    return max([ideally_brought(act, light, later) for act in acts], default=0)


def ideals_with(board, light, steps):
    """Give what places are ideally worth by the lights of self light, with so many steps left."""
    ideals = Ideals(1, [0] * board.places)
    for step in range(steps):
        amounts = [most_brought(acts, light, ideals) for acts in board.acts]
        ideals = Ideals(PARTS * ideals.scale, amounts)
    return ideals
