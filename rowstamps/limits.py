"""The numbers that the document sets: how much there may be, and what a refusal is called."""

SLOTS = 16
TABLES = 64
ROWS = 65536
CONTENT_MOST = 16384

# 2^62: no stamp is above it.
STAMP_MOST = 4611686018427387904

HELD_EACH = 64
HELD_MOST = 33554432

POINTS_MOST = 64

SCAN_EACH = 8
SCAN_BYTES = 65536

WRONG_ARGUMENTS = -2
WRONG_FORM = -3
NOT_NOW = -4
NO_SUCH_POINT = -5
FULL = -6
TOO_LONG = -7
