"""Points 6 and 7: the calls pack and unpack."""

import random
import unittest

from partfiles.unpacking import unpack
from tests.helpers import (
    NAMES, SAVE, Case, counted, get, no_three_twice, pack_bytes, plain_pack, plain_unpack, put, run, run_orders,
    told_bytes, unpack_bytes,
)


def packed(data):
    return told_bytes(run(pack_bytes(data))[0])


def unpacked(most, orders):
    return run(unpack_bytes(most, orders))[0]


def good(data):
    return [0] + counted(data)


REFUSED = [-1]
NOT_PACKED = [-3]


class Pack(Case):

    def test_written_out(self):
        self.assertEqual(run(pack_bytes([])), [[0, 0]])
        self.assertEqual(run(pack_bytes([5])), [[0, 2, 0, 5]])
        self.assertEqual(run(pack_bytes([7] * 7)), [[0, 5, 0, 7, 131, 0, 0]])
        self.assertEqual(run(pack_bytes([1, 2, 3] * 10)), [[0, 7, 2, 1, 2, 3, 152, 2, 0]])

    def test_also_where_it_is_not_shorter(self):
        self.assertEqual(packed("abc"), [2, 97, 98, 99])
        self.assertEqual(packed([5] * 5), [0, 5, 129, 0, 0])
        row = list(range(256))
        self.assertEqual(packed(row), [127] + row[:128] + [127] + row[128:])

    def test_as_the_document_tells_it(self):
        chance = random.Random(6)
        for signs in (1, 2, 4, 256):
            data = [chance.randrange(signs) for which in range(400)]
            self.assertEqual(packed(data), plain_pack(data))

    def test_distances_of_4096_and_4097(self):
        row = [200, 201, 202] + no_three_twice(4093)
        self.assertEqual(packed(row + row[:3])[-3:], [128, 255, 15])
        row = [200, 201, 202] + no_three_twice(4094)
        self.assertEqual(packed(row + row[:3])[-4:], [row[-1], 200, 201, 202])

    def test_how_many_bytes_it_takes(self):
        self.assertEqual(run(pack_bytes([7] * 65536))[0], good(run_orders(7, 65536)))
        self.assertEqual(run(pack_bytes([7] * 65537))[0], REFUSED)
        self.assertEqual(run(pack_bytes([7] * 200000))[0], REFUSED)

    def test_the_longest_that_is_handed_in(self):
        self.assertEqual(packed([7] * 29000), run_orders(7, 29000))

    def test_the_parts_are_as_they_are(self):
        answered = run(put("a", "x"), SAVE, pack_bytes("yyyyyyy"), unpack_bytes(9, [0, 7]), NAMES, get("a"), SAVE)
        self.assertEqual(answered[4:6], [[1, 1, 97], [0, 1, 120]])
        self.assertEqual(answered[6], answered[1])


class UnpackOfWhatIsPacked(Case):

    def same_again(self, data):
        orders = packed(data)
        self.assertEqual(unpacked(len(data), orders), good(data))
        self.assertEqual(unpacked(65536, orders), good(data))
        if data:
            self.assertEqual(unpacked(len(data) - 1, orders), NOT_PACKED)

    def test_short_rows(self):
        for length in range(9):
            for which in range(2 ** length):
                self.same_again([which >> place & 1 for place in range(length)])

    def test_runs(self):
        for length in (127, 128, 129, 130, 131, 132, 133, 134, 261, 29000, 65536):
            self.same_again([7] * length)

    def test_rows_by_chance(self):
        chance = random.Random(7)
        for signs in (1, 2, 3, 10, 256):
            for length in (5, 128, 129, 257, 5000):
                self.same_again([chance.randrange(signs) for which in range(length)])

    def test_longest_without_repeats(self):
        chance = random.Random(77)
        self.same_again([chance.randrange(256) for which in range(29000)])


class Unpack(Case):

    def test_nothing(self):
        for most in (0, 1, 65536):
            self.assertEqual(unpacked(most, []), [0, 0])

    def test_bytes_that_stand_for_themselves(self):
        self.assertEqual(unpacked(9, [0, 5]), [0, 1, 5])
        self.assertEqual(unpacked(9, [1, 5, 255]), [0, 2, 5, 255])
        row = list(range(128, 256))
        self.assertEqual(unpacked(128, [127] + row), good(row))

    def test_how_many_are_repeated(self):
        for first in range(128, 256):
            self.assertEqual(unpacked(200, [0, 5, first, 0, 0]), good([5] * (1 + first - 125)))

    def test_a_repeat_within_what_is_there(self):
        self.assertEqual(unpacked(99, [5, 1, 2, 3, 4, 5, 6, 128, 5, 0]), good([1, 2, 3, 4, 5, 6, 1, 2, 3]))
        self.assertEqual(unpacked(99, [5, 1, 2, 3, 4, 5, 6, 128, 3, 0]), good([1, 2, 3, 4, 5, 6, 3, 4, 5]))
        self.assertEqual(unpacked(99, [5, 1, 2, 3, 4, 5, 6, 128, 2, 0]), good([1, 2, 3, 4, 5, 6, 4, 5, 6]))

    def test_a_distance_less_than_its_length(self):
        self.assertEqual(unpacked(99, [1, 1, 2, 130, 1, 0]), good([1, 2, 1, 2, 1, 2, 1]))
        self.assertEqual(unpacked(99, [2, 1, 2, 3, 129, 2, 0]), good([1, 2, 3, 1, 2, 3, 1]))
        self.assertEqual(unpacked(99, [2, 1, 2, 3, 129, 1, 0]), good([1, 2, 3, 2, 3, 2, 3]))
        self.assertEqual(unpacked(133, [2, 1, 2, 3, 255, 2, 0]), good(([1, 2, 3] * 45)[:133]))

    def test_distances_of_two_bytes(self):
        row = [1, 2, 3] + [9] * 254
        orders = [2, 1, 2, 3] + run_orders(9, 254)
        self.assertEqual(unpacked(999, orders + [128, 0, 1]), good(row + [1, 2, 3]))
        self.assertEqual(unpacked(999, orders + [128, 255, 0]), good(row + [2, 3, 9]))
        self.assertEqual(unpacked(999, orders + [128, 1, 1]), NOT_PACKED)

    def test_a_distance_of_65536(self):
        # It needs 65536 bytes ahead of it: the call has no room for more then, unpack itself has.
        row = [1, 2, 3] + [9] * 65533
        orders = [2, 1, 2, 3] + run_orders(9, 65533)
        self.assertEqual(unpacked(65536, orders), good(row))
        self.assertEqual(unpacked(65536, orders + [128, 255, 255]), NOT_PACKED)
        self.assertEqual(unpack(orders + [128, 255, 255], 65539), row + [1, 2, 3])

    def test_distances_just_below_65536(self):
        orders = [2, 1, 2, 3] + run_orders(9, 65530)
        self.assertEqual(unpacked(65536, orders + [128, 252, 255]), good([1, 2, 3] + [9] * 65530 + [1, 2, 3]))
        self.assertEqual(unpacked(65536, orders + [128, 253, 255]), NOT_PACKED)
        self.assertEqual(unpacked(65536, orders + [128, 255, 255]), NOT_PACKED)

    def test_back_before_the_beginning(self):
        self.assertEqual(unpacked(99, [128, 0, 0]), NOT_PACKED)
        self.assertEqual(unpacked(99, [255, 255, 255]), NOT_PACKED)
        for length in (1, 2, 5, 128):
            orders = [length - 1] + [7] * length
            self.assertEqual(unpacked(300, orders + [128, length - 1, 0]), good([7] * (length + 3)))
            self.assertEqual(unpacked(300, orders + [128, length, 0]), NOT_PACKED)
            self.assertEqual(unpacked(300, orders + [128, length - 1, 1]), NOT_PACKED)

    def test_orders_end_in_the_middle(self):
        for orders in ([0], [1], [1, 7], [127], [127] + [7] * 127, [128], [128, 0], [255], [255, 0]):
            with self.subTest(orders=orders):
                self.assertEqual(unpacked(65536, orders), NOT_PACKED)
                self.assertEqual(unpacked(65536, [2, 7, 7, 7] + orders), NOT_PACKED)
                self.assertEqual(unpacked(65536, [2, 7, 7, 7, 140, 1, 0] + orders), NOT_PACKED)

    def test_every_shorter_beginning(self):
        orders = [2, 1, 2, 3, 129, 2, 0, 0, 9, 200, 0, 0]
        ends = (0, 4, 7, 9, 12)
        for length in range(len(orders) + 1):
            answer = unpacked(65536, orders[:length])
            if length in ends:
                self.assertEqual(answer, good(plain_unpack(orders[:length])))
            else:
                self.assertEqual(answer, NOT_PACKED)

    def test_bytes_that_are_not_packed(self):
        for text in ("plain words that nobody has packed", "abc", "0", "\x7f"):
            self.assertEqual(run([8, 1, 65536, 1] + counted(text.encode("ascii"))), [NOT_PACKED])
        self.assertEqual(unpacked(65536, list(range(200, 256))), NOT_PACKED)

    def test_most_bytes(self):
        orders = [0, 7, 131, 0, 0]
        for most, answer in (
            (0, NOT_PACKED), (1, NOT_PACKED), (6, NOT_PACKED), (7, good([7] * 7)), (8, good([7] * 7)),
            (65535, good([7] * 7)), (65536, good([7] * 7)), (65537, REFUSED), (4294967295, REFUSED),
        ):
            with self.subTest(most=most):
                self.assertEqual(unpacked(most, orders), answer)

    def test_most_bytes_that_stand_for_themselves(self):
        orders = [2, 7, 8, 9, 1, 5, 6]
        self.assertEqual(unpacked(5, orders), [0, 5, 7, 8, 9, 5, 6])
        for most in range(5):
            self.assertEqual(unpacked(most, orders), NOT_PACKED)

    def test_most_of_65536(self):
        self.assertEqual(unpacked(65536, run_orders(7, 65536)), good([7] * 65536))
        self.assertEqual(unpacked(65535, run_orders(7, 65536)), NOT_PACKED)
        self.assertEqual(unpacked(65536, run_orders(7, 65537)), NOT_PACKED)
        self.assertEqual(unpacked(65536, [0, 7] + [255, 0, 0] * 9666), NOT_PACKED)

    def test_too_much_is_told_ahead_of_not_packed(self):
        for orders in ([], [0], [128, 0, 0], [0, 7]):
            self.assertEqual(unpacked(65537, orders), REFUSED)

    def test_more_orders_than_65536_bytes(self):
        self.assertEqual(unpacked(65536, [0, 7] * 40000), good([7] * 40000))

    def test_orders_by_chance(self):
        chance = random.Random(8)
        for attempt in range(300):
            orders, data = [], []
            for which in range(chance.randrange(12)):
                if data and chance.randrange(2):
                    back, how_many = chance.randrange(len(data)), chance.randrange(3, 131)
                    orders += [how_many + 125, back % 256, back // 256]
                else:
                    taken = [chance.randrange(256) for byte in range(chance.randrange(1, 129))]
                    orders += [len(taken) - 1] + taken
                data = plain_unpack(orders)
            self.assertEqual(unpacked(len(data), orders), good(data))
            if data:
                self.assertEqual(unpacked(len(data) - 1, orders), NOT_PACKED)


if __name__ == "__main__":
    unittest.main()
