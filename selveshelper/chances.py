"""How likely it stands how, and where a self turns."""

from selveshelper.outlook import PARTS, act_done, all_stands, outlooks_up_to, self_behind, stands_behind


class Chances:
    """How likely each stand is: a whole number of parts, scale to 1."""

    def __init__(self, scale, parts):
        self.scale = scale
        self.parts = parts


def none_likely(board):
    """Give 0 for each stand."""
    parts = {}
    for stand in all_stands(board):
        parts[stand] = 0
    return parts


def surely_at(board, stand):
    """Give the chances where it surely stands so."""
    parts = none_likely(board)
    parts[stand] = 1
    return Chances(1, parts)


def ways_from(board, stand, later):
    """Give each stand to which it may come by what is done, and how likely: so many of PARTS."""
    done = act_done(board, stand, later)
    if done is None:
        return [(stand, PARTS)]
    return stands_behind(done, stand)


def one_step_on(board, chances, later):
    """Give the chances behind one step more, with as many steps left then as later has."""
    moved = none_likely(board)
    for stand, part in chances.parts.items():
        for behind, likely in ways_from(board, stand, later):
            moved[behind] += part * likely
    return Chances(PARTS * chances.scale, moved)


def chances_behind(board, stand, steps):
    """Give the chances behind so many steps from a stand, at which just so many are left."""
    outlooks = outlooks_up_to(board, steps)
    chances = surely_at(board, stand)
    # With each step one less is left, so what is done is told by an ever nearer outlook.
    for later in reversed(outlooks[:steps]):
        chances = one_step_on(board, chances, later)
    return chances


def turning_places(board, who, later):
    """Give the places at which a self turns into another one, with one step more than later has."""
    found = []
    for place in range(board.places):
        done = act_done(board, (place, who, 0), later)
        if done is not None and self_behind(done, who, 0) != who:
            found.append(place)
    return found
