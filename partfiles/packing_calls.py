"""What pack and unpack answer."""

from partfiles.faults import NotPacked
from partfiles.limits import MOST_BYTES
from partfiles.packing import pack
from partfiles.replies import FAULTY, NOT_TAKEN, told
from partfiles.unpacking import unpack


def pack_answer(data):
    if len(data) > MOST_BYTES:
        return [NOT_TAKEN]
    return told(pack(data))


def unpack_answer(most, orders):
    if most > MOST_BYTES:
        return [NOT_TAKEN]
    try:
        return told(unpack(orders, most))
    except NotPacked:
        return [FAULTY]
