"""Numbers as they stand in a file: the lowest byte first."""


def low_first(number, how_many):
    data = []
    rest = number
    for place in range(how_many):
        data.append(rest % 256)
        rest = rest // 256
    return data


def number_at(data, place, how_many):
    number = 0
    for byte in reversed(data[place:place + how_many]):
        number = number * 256 + byte
    return number
