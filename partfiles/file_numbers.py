"""Numbers as they stand in a file: the lowest byte first."""


def low_first(number, how_many):
    data = []
    rest = number
    for place in range(how_many):
        data.append(rest % 256)
        rest = rest // 256
    return data
