"""The bytes of a container and of the parts in it."""

from partfiles.checksum import sum_of
from partfiles.file_numbers import low_first
from partfiles.packing import pack

CONTAINER_BEGINS = (87, 66, 75, 49)


def part_bytes(name, data):
    packed = pack(data)
    if len(packed) < len(data):
        is_packed = 1
        stands = packed
    else:
        is_packed = 0
        stands = data
    saved = [len(name)] + list(name) + [is_packed]
    saved.extend(low_first(len(data), 4))
    saved.extend(low_first(len(stands), 4))
    saved.extend(low_first(sum_of(data), 4))
    saved.extend(stands)
    return saved


def container_bytes(saved_parts):
    saved = list(CONTAINER_BEGINS) + low_first(len(saved_parts), 2)
    for saved_part in saved_parts:
        saved.extend(saved_part)
    return saved + low_first(sum_of(saved), 4)
