"""The numbers that are answered where a call is refused."""

NONE_SUCH = -2
NOT_BEGUN = -11
OUT_OF_RANGE = -22
TOO_MANY = -28
