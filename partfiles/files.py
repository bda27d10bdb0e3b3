"""The calls on a set of parts, handed in and answered as whole numbers."""

from partfiles.call_list import call_at
from partfiles.part_set import PartSet

BEGINS = 0
PUT = 1
DROP = 2
GET = 3
NAMES = 4
SAVE = 5


class UnknownCall(ValueError):
    pass


def answer_of(part_set, call):
    if call.number == BEGINS:
        return part_set.begin()
    if call.number == PUT:
        return part_set.put(call.lists[0], call.lists[1])
    if call.number == DROP:
        return part_set.drop(call.lists[0])
    if call.number == GET:
        return part_set.fetch(call.lists[0])
    if call.number == NAMES:
        return part_set.names()
    if call.number == SAVE:
        return part_set.save()
    raise UnknownCall(str(call.number))


def answers(calls):
    part_set = PartSet()
    answered = []
    place = 0
    while place < len(calls):
        call = call_at(calls, place)
        answer = answer_of(part_set, call)
        answered.append(len(answer))
        answered.extend(answer)
        place = call.behind
    return answered
