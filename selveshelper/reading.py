"""How the calls stand in the list that is handed in."""

BEGIN = 0
ACT = 1
UNACT = 2
TURN = 3
LOCK = 4
ACTIS = 5
ACTS = 6
DOES = 7
BESTS = 8
WORTH = 9
BRINGS = 10
LIGHTS = 11
IDEAL = 12
SHORT = 13
AFTER = 14
SELVES = 15
TURNS = 16
NEVER = 17
IFTURN = 18
IFPAY = 19

# By a call's number: how many numbers it has, without its row.
HOW_MANY = (2, 1, 2, 3, 3, 2, 1, 4, 4, 5, 6, 4, 3, 4, 4, 4, 2, 2, 6, 6)


class Call:
    """One call: its number, the numbers given with it, its row, and where in the list it ends."""

    def __init__(self, number, given, row, end):
        self.number = number
        self.given = given
        self.row = row
        self.end = end


def read_call(calls, start):
    """Give the call that begins at start; one without a row is given an empty one."""
    number = calls[start]
    end = start + 1 + HOW_MANY[number]
    given = calls[start + 1:end]
    if number != ACT and number != IFPAY:
        return Call(number, given, [], end)
    row_end = end + 1 + calls[end]
    return Call(number, given, calls[end + 1:row_end], row_end)


def split_calls(calls):
    """Give all calls of the list, in order."""
    found = []
    start = 0
    while start < len(calls):
        call = read_call(calls, start)
        found.append(call)
        start = call.end
    return found
