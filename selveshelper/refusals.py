"""The numbers that stand for refusals."""

NO_SUCH = -2
NOT_BEGUN = -11
OUT_OF_RANGE = -22
TOO_MANY_ACTS = -28
NO_ACTS = -33
