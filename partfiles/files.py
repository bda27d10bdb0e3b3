"""The calls on a set of parts, handed in and answered as whole numbers."""

from partfiles.call_list import call_at
from partfiles.packing_calls import pack_answer, unpack_answer
from partfiles.part_set import PartSet
from partfiles.table_calls import read_answer, write_answer

BEGINS = 0
PUT = 1
DROP = 2
GET = 3
NAMES = 4
SAVE = 5
# The document calls it by a word that the program's language doesn't have as a name.
LOAD = 6
PACK = 7
UNPACK = 8
READ = 9
WRITE = 10


class UnknownCall(ValueError):
    pass


def answer_without_parts(call):
    if call.number == PACK:
        return pack_answer(call.lists[0])
    if call.number == UNPACK:
        return unpack_answer(call.numbers[0], call.lists[0])
    if call.number == READ:
        return read_answer(call.numbers[0], call.lists[0])
    if call.number == WRITE:
        return write_answer(call.numbers[0], call.numbers[1], call.lists[0], call.lists[1:])
    raise UnknownCall(str(call.number))


def answer_of(part_set, call):
    if call.number == BEGINS:
        return part_set.begin()
    if call.number == PUT:
        return part_set.put(call.lists[0], call.lists[1])
    if call.number == DROP:
        return part_set.drop(call.lists[0])
    if call.number == GET:
        return part_set.fetch(call.lists[0])
    if call.number == NAMES:
        return part_set.names()
    if call.number == SAVE:
        return part_set.save()
    if call.number == LOAD:
        return part_set.load(call.lists[0])
    return answer_without_parts(call)


def answers(calls):
    part_set = PartSet()
    answered = []
    place = 0
    while place < len(calls):
        call = call_at(calls, place)
        answer = answer_of(part_set, call)
        answered.append(len(answer))
        answered.extend(answer)
        place = call.behind
    return answered
