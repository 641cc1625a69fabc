"""The numbers that are answered where a call is refused."""

NONE_SUCH = -2
NOT_BEGUN = -11
NOT_AS_TOLD = -22
