"""The numbers by which calls are refused."""

NONE_SUCH = -2
NEED_NOT_SO = -6
NOT_TOGETHER = -16
NOT_AS_TOLD = -22
TOO_MANY = -28
NOT_LET = -33
KEPT = -33
NOT_ALLOWED = -35
NOT_BEGUN = -61
