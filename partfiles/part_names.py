"""The names that parts may have."""

MOST_NAME_BYTES = 64
LEAST_NAME_BYTE = 33
MOST_NAME_BYTE = 126


def is_name(name):
    if len(name) < 1 or len(name) > MOST_NAME_BYTES:
        return False
    return min(name) >= LEAST_NAME_BYTE and max(name) <= MOST_NAME_BYTE
