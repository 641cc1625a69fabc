"""The numbers that are answered where a call is refused."""

NONE_SUCH = -2
NOT_BEGUN = -11
SOMETHING_MEASURED = -16
NOT_AS_TOLD = -22
NOT_SURE_SO = -33
