"""The numbers that are answered where a call is refused."""

NO_SUCH = -2
ONLY_ONE = -6
NO_CHANGE = -6
NOT_BEGUN = -11
TOLD_ALREADY = -17
NOT_AS_TOLD = -22
NONE_THERE = -33
RING = -35
