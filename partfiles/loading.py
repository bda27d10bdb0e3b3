"""A container's bytes read strictly: its parts, or the first fault and its place."""

from partfiles.checksum import sum_of
from partfiles.faults import ContainerFault, NotPacked
from partfiles.file_numbers import number_at
from partfiles.limits import MOST_BYTES, MOST_PARTS
from partfiles.part_names import is_name
from partfiles.saving import CONTAINER_BEGINS
from partfiles.unpacking import unpack

NO_CONTAINER = 1
ENDS_TOO_SOON = 2
NO_NAME = 3
NOT_IN_ORDER = 4
NEITHER_0_NOR_1 = 5
NOT_THE_PART = 6
OTHER_PART_SUM = 7
OTHER_SUM = 8
SOMETHING_BEHIND = 9
TOO_MUCH = 10

FIRST_PART_PLACE = 6

# What stands between a part's name and what stands for the part, and where in it.
HEAD_BYTES = 13
LENGTH_IN_HEAD = 1
LENGTH_HERE_IN_HEAD = 5
SUM_IN_HEAD = 9

SUM_BYTES = 4


class Head:

    def __init__(self, is_packed, length, length_here, own_sum):
        self.is_packed = is_packed
        self.length = length
        self.length_here = length_here
        self.own_sum = own_sum


class LoadedPart:

    def __init__(self, name, data, behind):
        self.name = name
        self.data = data
        self.behind = behind


def part_count(data):
    begins = len(CONTAINER_BEGINS)
    if tuple(data[:begins]) != CONTAINER_BEGINS:
        raise ContainerFault(NO_CONTAINER, 0)
    if len(data) < FIRST_PART_PLACE:
        raise ContainerFault(ENDS_TOO_SOON, begins)
    how_many = number_at(data, begins, 2)
    if how_many > MOST_PARTS:
        raise ContainerFault(TOO_MUCH, begins)
    return how_many


def name_at(data, place, name_before):
    if place >= len(data):
        raise ContainerFault(ENDS_TOO_SOON, place)
    behind = place + 1 + data[place]
    if behind > len(data):
        raise ContainerFault(ENDS_TOO_SOON, place)
    name = data[place + 1:behind]
    if not is_name(name):
        raise ContainerFault(NO_NAME, place)
    if name <= name_before:
        raise ContainerFault(NOT_IN_ORDER, place)
    return name


def head_at(data, place):
    if place + HEAD_BYTES > len(data):
        raise ContainerFault(ENDS_TOO_SOON, place)
    if data[place] > 1:
        raise ContainerFault(NEITHER_0_NOR_1, place)
    length = number_at(data, place + LENGTH_IN_HEAD, 4)
    length_here = number_at(data, place + LENGTH_HERE_IN_HEAD, 4)
    if length > MOST_BYTES or length_here > MOST_BYTES:
        raise ContainerFault(TOO_MUCH, place + LENGTH_IN_HEAD)
    own_sum = number_at(data, place + SUM_IN_HEAD, SUM_BYTES)
    return Head(data[place] == 1, length, length_here, own_sum)


def bytes_at(data, place, head):
    behind = place + head.length_here
    if behind > len(data):
        raise ContainerFault(ENDS_TOO_SOON, place)
    stands = data[place:behind]
    if not head.is_packed:
        return stands
    try:
        return unpack(stands, head.length)
    except NotPacked:
        raise ContainerFault(NOT_THE_PART, place)


def part_at(data, place, name_before):
    name = name_at(data, place, name_before)
    head_place = place + 1 + len(name)
    head = head_at(data, head_place)
    begins = head_place + HEAD_BYTES
    part = bytes_at(data, begins, head)
    if len(part) != head.length:
        raise ContainerFault(NOT_THE_PART, begins)
    if sum_of(part) != head.own_sum:
        raise ContainerFault(OTHER_PART_SUM, head_place + SUM_IN_HEAD)
    return LoadedPart(name, part, begins + head.length_here)


def check_end(data, place):
    behind = place + SUM_BYTES
    if behind > len(data):
        raise ContainerFault(ENDS_TOO_SOON, place)
    if number_at(data, place, SUM_BYTES) != sum_of(data[:place]):
        raise ContainerFault(OTHER_SUM, place)
    if behind < len(data):
        raise ContainerFault(SOMETHING_BEHIND, behind)


def loaded_parts(data):
    parts = []
    place = FIRST_PART_PLACE
    # Nothing comes before the first part: every name is behind the empty row.
    name_before = []
    for which in range(part_count(data)):
        part = part_at(data, place, name_before)
        parts.append(part)
        place = part.behind
        name_before = part.name
    check_end(data, place)
    return parts
