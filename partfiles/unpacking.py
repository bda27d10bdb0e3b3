"""Unpacking: the bytes that a row of orders stands for."""

from partfiles.faults import NotPacked
from partfiles.file_numbers import number_at
from partfiles.packing import MOST_TAKEN, REPEAT_BASE

REPEAT_ORDER_BYTES = 3


# Looked at ahead of each order, so that a short row of orders can't bring more than is asked for.
def check_room(data, how_many, most):
    if len(data) + how_many > most:
        raise NotPacked()


def take(data, orders, place, most):
    how_many = orders[place] + 1
    behind = place + 1 + how_many
    if behind > len(orders):
        raise NotPacked()
    check_room(data, how_many, most)
    data.extend(orders[place + 1:behind])
    return behind


def repeat(data, orders, place, most):
    behind = place + REPEAT_ORDER_BYTES
    if behind > len(orders):
        raise NotPacked()
    how_many = orders[place] - REPEAT_BASE
    back = len(data) - number_at(orders, place + 1, 2) - 1
    if back < 0:
        raise NotPacked()
    check_room(data, how_many, most)
    # One by one, since a repeat may reach into the bytes it brings itself.
    for source in range(back, back + how_many):
        data.append(data[source])
    return behind


def unpack(orders, most):
    data = []
    place = 0
    while place < len(orders):
        if orders[place] < MOST_TAKEN:
            place = take(data, orders, place, most)
        else:
            place = repeat(data, orders, place, most)
    return data
