"""Packing: bytes as orders to take bytes as they are or to repeat earlier ones."""

from partfiles.file_numbers import low_first

MOST_TAKEN = 128
LEAST_REPEATED = 3
MOST_REPEATED = 130
FARTHEST = 4096

# An order to repeat n bytes begins with the byte n + 125, so that the least, 3, gives 128.
REPEAT_BASE = 125


# For each place the nearest earlier one where the same three bytes stand, or -1:
# fewer than three are never repeated, so a search may pass over every other place.
def places_before(data):
    newest = {}
    before = []
    for place in range(len(data) - LEAST_REPEATED + 1):
        three = tuple(data[place:place + LEAST_REPEATED])
        before.append(newest.get(three, -1))
        newest[three] = place
    return before


def how_many_same(data, back, place, most):
    same = 0
    while same < most and data[back + same] == data[place + same]:
        same = same + 1
    return same


# How many bytes can be repeated, and from what distance; (0, 0) where it's fewer than three.
def longest_repeat(data, before, place):
    most = min(MOST_REPEATED, len(data) - place)
    if most < LEAST_REPEATED:
        return (0, 0)
    longest = 0
    distance = 0
    back = before[place]
    while back >= 0 and place - back <= FARTHEST and longest < most:
        # A longer repeat has the byte behind the longest so far too: most places fail here at once.
        if data[back + longest] == data[place + longest]:
            same = how_many_same(data, back, place, most)
            # Nearer places come first, so one that is just as long is passed over.
            if same > longest:
                longest = same
                distance = place - back
        back = before[back]
    return (longest, distance)


def take_orders(waiting):
    orders = []
    for first in range(0, len(waiting), MOST_TAKEN):
        taken = waiting[first:first + MOST_TAKEN]
        orders.append(len(taken) - 1)
        orders.extend(taken)
    return orders


def repeat_order(how_many, distance):
    return [how_many + REPEAT_BASE] + low_first(distance - 1, 2)


def pack(data):
    before = places_before(data)
    orders = []
    waiting = []
    place = 0
    while place < len(data):
        repeat = longest_repeat(data, before, place)
        how_many = repeat[0]
        if how_many == 0:
            waiting.append(data[place])
            place = place + 1
        else:
            orders.extend(take_orders(waiting))
            orders.extend(repeat_order(how_many, repeat[1]))
            waiting = []
            place = place + how_many
    orders.extend(take_orders(waiting))
    return orders
