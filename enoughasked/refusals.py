"""The numbers that refused calls answer."""

NONE_SUCH = -2
NOT_BEGUN = -11
ALREADY = -16
WRITTEN = -17
NOT_AS_TOLD = -22
TOO_MANY = -28
THERE_IS_NONE = -33
