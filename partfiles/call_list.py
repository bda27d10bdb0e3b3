"""The calls in a list of whole numbers, one behind another."""


class Call:

    def __init__(self, number, numbers, lists, behind):
        self.number = number
        self.numbers = numbers
        self.lists = lists
        self.behind = behind


def call_at(calls, place):
    numbers_begin = place + 2
    numbers_end = numbers_begin + calls[place + 1]
    numbers = calls[numbers_begin:numbers_end]
    lists = []
    behind = numbers_end + 1
    for which in range(calls[numbers_end]):
        list_begins = behind + 1
        behind = list_begins + calls[behind]
        lists.append(calls[list_begins:behind])
    return Call(calls[place], numbers, lists, behind)
