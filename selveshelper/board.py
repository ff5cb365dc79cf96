"""What is kept from call to call: places, selves, and the acts at each place."""


class Act:
    """One act: a pay for each self, a weight for each place, into whom it turns, whether it locks."""

    def __init__(self, pays, weights):
        self.pays = pays
        self.weights = weights
        # One more than the self, so that 0 is left to say that it doesn't turn.
        self.into = 0
        self.locks = 0


class Board:
    """How many places and selves there are, and a list of acts for each place; no places: not begun."""

    def __init__(self):
        self.places = 0
        self.selves = 0
        self.acts = []


def is_begun(board):
    """Tell whether a begin was answered 0."""
    return board.places > 0


def has_place(board, place):
    """Tell whether there is such a place."""
    return place < board.places


def has_self(board, who):
    """Tell whether there is such a self."""
    return who < board.selves


def has_act(board, place, number):
    """Tell whether there is such a place, and such an act at it."""
    return has_place(board, place) and number < len(board.acts[place])


def has_stand(board, stand):
    """Tell whether there is such a place, and such a self, as a stand names."""
    return has_place(board, stand[0]) and has_self(board, stand[1])


def copy_of_act(act):
    """Give an act of its own that is like the one given."""
    copied = Act(list(act.pays), list(act.weights))
    copied.into = act.into
    copied.locks = act.locks
    return copied


def copies_of_acts(acts):
    """Give acts of their own that are like the ones given."""
    return [copy_of_act(act) for act in acts]


def copy_of_board(board):
    """Give a board of its own that is like the one given, so that it can be tried what would be."""
    copied = Board()
    copied.places = board.places
    copied.selves = board.selves
    copied.acts = [copies_of_acts(acts) for acts in board.acts]
    return copied
