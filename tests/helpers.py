"""Building lists of calls, and the document's words told once more in the plainest way."""

import re
import unittest
import zlib

from partfiles.files import answers

BEGINS = [0, 0, 0]
NAMES = [4, 0, 0]
SAVE = [5, 0, 0]


class Case(unittest.TestCase):
    """A test that tells long rows by where they first differ: unittest's own way takes minutes for these."""

    def setUp(self):
        self.addTypeEqualityFunc(list, self.same_row)
        self.addTypeEqualityFunc(tuple, self.same_row)

    def same_row(self, found, wanted, msg=None):
        if found != wanted:
            place = 0
            while found[place:place + 1] == wanted[place:place + 1]:
                place += 1
            ahead = f"the rows, of {len(found)} and {len(wanted)}, differ at {place}: "
            self.fail(ahead + f"{str(found[place:])[:300]} is not {str(wanted[place:])[:300]}")


def as_bytes(text):
    return list(text.encode("ascii")) if isinstance(text, str) else list(text)


def counted(data):
    return [len(data)] + list(data)


def put(name, data):
    return [1, 0, 2] + counted(as_bytes(name)) + counted(as_bytes(data))


def drop(name):
    return [2, 0, 1] + counted(as_bytes(name))


def get(name):
    return [3, 0, 1] + counted(as_bytes(name))


def open_parts(data):
    return [6, 0, 1] + counted(data)


def pack_bytes(data):
    return [7, 0, 1] + counted(as_bytes(data))


def unpack_bytes(most, orders):
    return [8, 1, most, 1] + counted(orders)


def read_table(separator, text):
    return [9, 1, separator, 1] + counted(as_bytes(text))


def write_table(separator, both, rows):
    fields = [as_bytes(field) for row in rows for field in row]
    call = [10, 2, separator, both, 1 + len(fields)] + counted([len(row) for row in rows])
    for field in fields:
        call += counted(field)
    return call


def split_answers(answered):
    found = []
    place = 0
    while place < len(answered):
        behind = place + 1 + answered[place]
        if answered[place] < 1 or behind > len(answered):
            raise ValueError("an answer is empty or not whole")
        found.append(answered[place + 1:behind])
        place = behind
    return found


def run(*calls):
    """The answers to these calls, a list for each."""
    return split_answers(answers([number for call in calls for number in call]))


def last(*calls):
    return run(*calls)[-1]


def told_bytes(answer):
    if answer[0] != 0 or answer[1] != len(answer) - 2:
        raise ValueError("no bytes are told")
    return answer[2:]


def saved(*calls):
    """The container that a save behind these calls answers."""
    return told_bytes(last(*calls, SAVE))


def number_at(data, place, how_many):
    return int.from_bytes(bytes(data[place:place + how_many]), "little")


def parts_of(container):
    """Of each part in a container: name, 1 if packed, length, length here, sum, what stands here."""
    found = []
    place = 6
    for which in range(number_at(container, 4, 2)):
        length = container[place]
        name = container[place + 1:place + 1 + length]
        place = place + 1 + length
        here = number_at(container, place + 5, 4)
        found.append((
            bytes(name).decode("ascii"), container[place], number_at(container, place + 1, 4),
            here, number_at(container, place + 9, 4), container[place + 13:place + 13 + here],
        ))
        place = place + 13 + here
    if place + 4 != len(container):
        raise ValueError("the parts don't end where the sum begins")
    return found


def low_first(number, how_many):
    return list(number.to_bytes(how_many, "little"))


def part_form(name, data, **other):
    """A part as it stands in a container, not packed; what other tells stands in the place of what's right."""
    name, data = as_bytes(name), as_bytes(data)
    stands = other.get("stands", data)
    form = [other.get("name_length", len(name))] + name + [other.get("packed", 0)]
    form += low_first(other.get("length", len(data)), 4) + low_first(other.get("here", len(stands)), 4)
    return form + low_first(other.get("own_sum", zlib.crc32(bytes(data))), 4) + stands


def packed_form(name, data, **other):
    """A part as it stands in a container, packed in whatever way."""
    stands = other["stands"] if "stands" in other else plain_pack(as_bytes(data))
    return part_form(name, data, **{"packed": 1, **other, "stands": stands})


def run_orders(byte, how_many):
    """What a run of this byte packs to, where its last repeat is of 3 or more: plain_pack takes long for long runs."""
    return [0, byte] + [255, 0, 0] * ((how_many - 1) // 130) + [(how_many - 1) % 130 + 125, 0, 0]


def container_form(*parts, count=None, other_sum=0, behind=()):
    """A container with these parts, the sum of all other by the bits that are told."""
    form = as_bytes("WBK1") + low_first(len(parts) if count is None else count, 2)
    for part in parts:
        form += part
    return form + low_first(zlib.crc32(bytes(form)) ^ other_sum, 4) + list(behind)


def stands_for(data):
    """Whether a saved part of these bytes is packed, and what stands for it."""
    part = parts_of(saved(put("p", data)))[0]
    return part[1], part[5]


def plain_sum(data):
    """The sum, step by step as the document tells it."""
    r = 2 ** 32 - 1
    for byte in data:
        r ^= byte
        for step in range(8):
            lowest = r % 2
            r //= 2
            if lowest == 1:
                r ^= 0xEDB88320
    return r ^ (2 ** 32 - 1)


def plain_taken(waiting):
    orders = []
    while waiting:
        orders += [len(waiting[:128]) - 1] + waiting[:128]
        waiting = waiting[128:]
    return orders


def plain_pack(data):
    """Packing, trying every distance as the document tells it."""
    orders, waiting, i = [], [], 0
    while i < len(data):
        most, nearest = 0, 0
        for d in range(1, min(i, 4096) + 1):
            same = 0
            while same < 130 and i + same < len(data) and data[i + same] == data[i - d + same]:
                same += 1
            if same > most:
                most, nearest = same, d
        if most >= 3:
            orders += plain_taken(waiting) + [most + 125, (nearest - 1) % 256, (nearest - 1) // 256]
            waiting = []
            i += most
        else:
            waiting.append(data[i])
            i += 1
    return orders + plain_taken(waiting)


def plain_unpack(orders):
    data, place = [], 0
    while place < len(orders):
        c = orders[place]
        if c < 128:
            data += orders[place + 1:place + c + 2]
            place += c + 2
        else:
            back = number_at(orders, place + 1, 2) + 1
            for which in range(c - 125):
                data.append(data[-back])
            place += 3
    return data


def told_table(rows):
    """What read answers where the table is this one."""
    answer = [len(rows)]
    for row in rows:
        answer.append(len(row))
        for field in row:
            answer += counted(as_bytes(field))
    return answer


QUOTED = re.compile(rb'"((?:[^"]|"")*)"(?!")')


def plain_read(separator, text):
    """What read answers to this text, by patterns."""
    between = bytes([separator])
    unquoted = re.compile(rb'[^"\r\n' + re.escape(between) + rb']*')
    rows, row, place = [], [], 0
    while place < len(text) or row:
        in_quotes = text[place:place + 1] == b'"'
        found = (QUOTED if in_quotes else unquoted).match(text, place)
        if not found:
            return [-3, 4, place]
        row.append(found[1].replace(b'""', b'"') if in_quotes else found[0])
        place = found.end()
        behind = re.compile(re.escape(between) + rb"|\r?\n|\Z").match(text, place)
        if not behind:
            return [-3, 2 if in_quotes else 1 if text[place:place + 1] == b'"' else 3, place]
        if behind[0] != between:
            rows.append(row)
            row = []
        place = behind.end()
    return told_table(rows)


def plain_write(separator, both, rows):
    """The bytes of a table, as the document tells it."""
    between, text = bytes([separator]), b""
    for row in rows:
        fields = [bytes(as_bytes(field)) for field in row]
        quoted = [b'"' + field.replace(b'"', b'""') + b'"' for field in fields]
        text += between.join(
            inside if set(field) & {separator, 34, 10, 13} else field for field, inside in zip(fields, quoted))
        text += b"\r\n" if both else b"\n"
    return list(text)


def no_three_twice(how_many):
    """So many bytes below 17 in which no three in a row stand twice (a de Bruijn row)."""
    row, word = [], [0] * 51

    def grow(place, period):
        if place > 3:
            if 3 % period == 0:
                row.extend(word[1:period + 1])
            return
        word[place] = word[place - period]
        grow(place + 1, period)
        for sign in range(word[place - period] + 1, 17):
            word[place] = sign
            grow(place + 1, place)

    grow(1, 1)
    if how_many > len(row):
        raise ValueError("the row is not that long")
    return row[:how_many]
