"""The error codes of refused calls and the statuses that the server itself gives to requests."""

NO_SERVER = -11
UNKNOWN = -2
OUTSIDE = -22
NOT_OPEN = -16
TOO_MANY = -28
NOTHING_THERE = -33

OK = 0
CANCELLED = 1
INVALID = 3
DEADLINE_EXCEEDED = 4
PERMISSION_DENIED = 7
EXHAUSTED = 8
UNIMPLEMENTED = 12
UNAUTHENTICATED = 16
REFUSED = 100
