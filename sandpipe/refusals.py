"""The numbers by which a call is refused."""

NO_SUCH = -2
NONE_THERE = -6
NOT_BEGUN = -11
PUMP_THERE = -16
ALREADY = -17
OUT_OF_RANGE = -22
TOO_MANY = -28
DOES_NOT_GO = -33
