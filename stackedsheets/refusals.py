"""The numbers by which calls are refused."""

NO_SUCH = -2
NOT_STARTED = -11
WRONG_SIGN = -13
IN_A_STACK = -16
WRONG_VALUE = -22
FULL = -28
NO_WAY = -33
