"""The refusals, each as the number that is answered."""

THERE_IS_NONE = -2
HAS_NONE = -6
NOT_BEGUN = -11
NOT_ENOUGH = -12
NOT_LIFTED = -13
NOT_NOW = -16
ALREADY = -17
OUT_OF_RANGE = -22
NO_ROOM = -28
CANNOT_BE = -33
