"""The numbers by which calls are refused."""

NO_SUCH = -2
BOTH_LOOSE = -6
NOT_STARTED = -11
WRONG_SIGN = -13
STACK_FORBIDS = -16
IN_A_STACK = -17
WRONG_VALUE = -22
FULL = -28
NO_WAY = -33
