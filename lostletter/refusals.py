"""The numbers below 0 that a refused call answers."""

NOT_THERE = -2
NOT_IN_CODE = -6
OF_SEVERAL = -16
ALREADY_SO = -17
OUT_OF_RANGE = -22
TOO_MANY = -28
ALIKE = -33
OF_NONE = -33
TOO_LONG = -75
