"""The numbers that the document sets: how much there may be, and what a refusal is called."""

SLOTS = 16
ROWS = 65536

HELD_EACH = 64
HELD_MOST = 33554432

POINTS_MOST = 64

SCAN_EACH = 8
SCAN_BYTES = 65536

WRONG_ARGUMENTS = -2
NOT_NOW = -4
NO_SUCH_POINT = -5
FULL = -6
