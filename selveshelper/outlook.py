"""What acts bring and stands are worth, by each self's lights.

A stand is a tuple: the place, the self, 1 (locked) or 0.
"""

# Four weights of at most 9 come to 1 to 36 in all, and each of these divides
# this number: so every mean can be counted in whole parts, without fractions.
PARTS = 144403552893600


class Outlook:
    """What each stand is worth with some steps left: for each self a whole number of parts, scale to 1."""

    def __init__(self, scale, worths):
        self.scale = scale
        self.worths = worths


def all_stands(board):
    """Give all stands in their order."""
    stands = []
    for place in range(board.places):
        for who in range(board.selves):
            stands.append((place, who, 0))
            stands.append((place, who, 1))
    return stands


def self_behind(act, who, locked):
    """Give who it is behind an act."""
    if act.into == 0 or locked == 1:
        return who
    return act.into - 1


def lock_behind(act, locked):
    """Give 1 if it is locked behind an act, else 0."""
    return max(act.locks, locked)


def stands_behind(act, stand):
    """Give each stand to which an act may lead, and how likely it does: so many of PARTS."""
    who = self_behind(act, stand[1], stand[2])
    locked = lock_behind(act, stand[2])
    share = PARTS // sum(act.weights)
    return [((place, who, locked), weight * share) for place, weight in enumerate(act.weights)]


def brought_by(act, stand, light, later):
    """Give what an act brings at a stand by the lights of self light, in parts PARTS times as fine as later's."""
    brought = act.pays[light] * PARTS * later.scale
    for behind, likely in stands_behind(act, stand):
        brought += likely * later.worths[behind][light]
    return brought


def brought_for_itself(board, stand, later):
    """Give what each act at a stand brings by the lights of who stands there."""
    return [brought_by(act, stand, stand[1], later) for act in board.acts[stand[0]]]


def first_best(amounts):
    """Give the number of the first of the greatest amounts."""
    return amounts.index(max(amounts))


def all_bests(amounts):
    """Give the numbers of all of the greatest amounts, rising."""
    most = max(amounts, default=0)
    return [number for number, amount in enumerate(amounts) if amount == most]


def act_done(board, stand, later):
    """Give the act that is done at a stand, with one step more than later has; None if there is none."""
    amounts = brought_for_itself(board, stand, later)
    if len(amounts) == 0:
        return None
    return board.acts[stand[0]][first_best(amounts)]


def worths_at(board, stand, later):
    """Give what a stand is worth by each self's lights, with one step more than later has."""
    done = act_done(board, stand, later)
    if done is None:
        return [0] * board.selves
    return [brought_by(done, stand, light, later) for light in range(board.selves)]


def no_steps_left(board):
    """Give the outlook with 0 steps left."""
    worths = {}
    for stand in all_stands(board):
        worths[stand] = [0] * board.selves
    return Outlook(1, worths)


def one_step_more(board, later):
    """Give the outlook with one step more than later has."""
    worths = {}
    for stand in all_stands(board):
        worths[stand] = worths_at(board, stand, later)
    return Outlook(PARTS * later.scale, worths)


def outlooks_up_to(board, steps):
    """Give the outlooks with 0 steps left, 1, and so on, the last with so many as are told."""
    outlooks = [no_steps_left(board)]
    for step in range(steps):
        outlooks.append(one_step_more(board, outlooks[step]))
    return outlooks


def outlook_with(board, steps):
    """Give the outlook with so many steps left."""
    return outlooks_up_to(board, steps)[steps]
