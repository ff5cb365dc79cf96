"""Calls by their names, made into the list that is handed in, and answers split call by call."""

from selveshelper.turning import answers

NAMES = (
    "begin", "act", "unact", "turn", "lock", "actis", "acts", "does", "bests", "worth",
    "brings", "lights", "ideal", "short", "after", "selves", "turns", "never", "ifturn", "ifpay",
)

# How many whole numbers each call has, read off the document's interface.
SHAPES = {
    "begin": 2, "act": 1, "unact": 2, "turn": 3, "lock": 3, "actis": 2, "acts": 1,
    "does": 4, "bests": 4, "worth": 5, "brings": 6, "lights": 4, "ideal": 3, "short": 4,
    "after": 4, "selves": 4, "turns": 2, "never": 2, "ifturn": 6, "ifpay": 6,
}

ROWED = ("act", "ifpay")


def flat(calls):
    """Make the list that is handed in; a row stands as a list at a call's end."""
    listed = []
    for call in calls:
        name, rest = call[0], list(call[1:])
        row = rest.pop() if name in ROWED else None
        assert len(rest) == SHAPES[name], call
        listed += [NAMES.index(name)] + rest
        if row is not None:
            listed += [len(row)] + list(row)
    assert 1 <= len(calls) <= 60 and len(listed) <= 720
    return listed


def split(told):
    """Split what is given back into one list of numbers for each call."""
    found = []
    at = 0
    while at < len(told):
        found.append(told[at + 1:at + 1 + told[at]])
        at += 1 + told[at]
    assert at == len(told)
    return found


def replies(*calls):
    """Hand in the calls, and give a list of numbers for each."""
    found = split(answers(flat(calls)))
    assert len(found) == len(calls)
    return found


def last(*calls):
    """Hand in the calls, and give the numbers answered to the last of them."""
    return replies(*calls)[-1]
