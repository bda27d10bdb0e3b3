"""How much the calls and a container take."""

MOST_BYTES = 65536
MOST_PARTS = 64
