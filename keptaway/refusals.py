"""The numbers that refusals answer."""

NONE_SUCH = -2
NOTHING_DONE = -6
NOT_BEGUN = -11
IN_A_RING = -14
ARROW_HANGS = -16
SO_ALREADY = -17
NOT_AS_TOLD = -22
TOO_MANY = -28
THERE_IS_NONE = -33
