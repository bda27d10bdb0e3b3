"""Packing's edges, as save shows them."""

import random
import unittest

from partfiles.packing import pack
from tests.helpers import Case, no_three_twice, plain_pack, plain_taken, stands_for

# A run of 131 is one byte that waits and one order for 130 more: behind it a part is
# surely shorter packed, so that save shows the orders.
RUN = [250] * 131
RUN_REPEATED = [255, 0, 0]


class HowManyAreRepeated(Case):

    def test_two_wait(self):
        data = [1, 2, 9, 1, 2, 8] + RUN
        self.assertEqual(stands_for(data), (1, [6, 1, 2, 9, 1, 2, 8, 250] + RUN_REPEATED))

    def test_three_are_repeated(self):
        data = [1, 2, 3, 9, 1, 2, 3, 8] + RUN
        self.assertEqual(stands_for(data), (1, [3, 1, 2, 3, 9, 128, 3, 0, 1, 8, 250] + RUN_REPEATED))

    def test_two_at_the_end_wait(self):
        self.assertEqual(stands_for(RUN + [1, 1, 1]), (1, [0, 250] + RUN_REPEATED + [2, 1, 1, 1]))

    def test_three_at_the_end_are_repeated(self):
        self.assertEqual(stands_for(RUN + [1, 1, 1, 1]), (1, [0, 250] + RUN_REPEATED + [0, 1, 128, 0, 0]))

    def test_a_run(self):
        for length, orders in (
            (130, [254, 0, 0]),
            (131, [255, 0, 0]),
            (132, [255, 0, 0, 0, 7]),
            (133, [255, 0, 0, 1, 7, 7]),
            (134, [255, 0, 0, 128, 0, 0]),
            (261, [255, 0, 0, 255, 0, 0]),
            (262, [255, 0, 0, 255, 0, 0, 0, 7]),
        ):
            with self.subTest(length=length):
                self.assertEqual(stands_for([7] * length), (1, [0, 7] + orders))

    def test_130_and_more_from_farther_off(self):
        row = no_three_twice(139) + [100]
        for length, orders in (
            (129, [254, 139, 0]),
            (130, [255, 139, 0]),
            (131, [255, 139, 0, 0, row[130]]),
            (133, [255, 139, 0, 128, 139, 0]),
            (140, [255, 139, 0, 135, 139, 0]),
        ):
            with self.subTest(length=length):
                self.assertEqual(stands_for(row + row[:length]), (1, plain_taken(row) + orders))

    def test_a_repeat_may_overlap_itself(self):
        self.assertEqual(stands_for([1, 2, 3] * 10), (1, [2, 1, 2, 3, 152, 2, 0]))


class HowFarOff(Case):

    def test_distance_1(self):
        self.assertEqual(stands_for([7] * 20), (1, [0, 7, 144, 0, 0]))

    def test_distances_of_one_byte_and_two(self):
        for distance, told in ((256, [255, 0]), (257, [0, 1])):
            row = [200, 201, 202] + no_three_twice(distance - 3)
            orders = plain_taken(row) + [128] + told + [0, 250] + RUN_REPEATED
            with self.subTest(distance=distance):
                self.assertEqual(stands_for(row + [200, 201, 202] + RUN), (1, orders))

    def test_distance_4096(self):
        row = [200, 201, 202] + no_three_twice(4093)
        orders = plain_taken(row) + [128, 255, 15, 0, 250] + RUN_REPEATED
        self.assertEqual(stands_for(row + [200, 201, 202] + RUN), (1, orders))

    def test_distance_4097(self):
        row = [200, 201, 202] + no_three_twice(4094)
        orders = plain_taken(row + [200, 201, 202, 250]) + RUN_REPEATED
        self.assertEqual(stands_for(row + [200, 201, 202] + RUN), (1, orders))

    def test_a_longer_one_too_far_off_is_not_taken(self):
        row = [200, 201, 202, 203, 204] + no_three_twice(4092)
        row[100:103] = [200, 201, 202]
        orders = plain_taken(row[:100]) + [128, 99, 0] + plain_taken(row[103:])
        orders += [128, 3996 % 256, 3996 // 256, 2, 203, 204, 250] + RUN_REPEATED
        self.assertEqual(stands_for(row + [200, 201, 202, 203, 204] + RUN), (1, orders))


class WhichDistance(Case):

    def test_of_several_the_nearest(self):
        data = [1, 2, 3, 4, 9, 1, 2, 3, 4, 8, 1, 2, 3, 4, 7] + RUN
        orders = [4, 1, 2, 3, 4, 9, 129, 4, 0, 0, 8, 129, 4, 0, 1, 7, 250] + RUN_REPEATED
        self.assertEqual(stands_for(data), (1, orders))

    def test_a_longer_one_ahead_of_the_nearest(self):
        data = [1, 2, 3, 4, 9, 1, 2, 3, 8, 1, 2, 3, 4, 7] + RUN
        orders = [4, 1, 2, 3, 4, 9, 128, 4, 0, 0, 8, 129, 8, 0, 1, 7, 250] + RUN_REPEATED
        self.assertEqual(stands_for(data), (1, orders))

    def test_the_nearest_of_several_with_130(self):
        row = no_three_twice(139) + [100]
        data = row + [101] + row + [102] + row
        again = [255, 140, 0, 135, 140, 0]
        orders = plain_taken(row + [101]) + again + [0, 102] + again
        self.assertEqual(stands_for(data), (1, orders))

    def test_the_nearest_of_several_up_to_the_end(self):
        data = RUN + [1, 2, 3, 4, 5, 9, 1, 2, 3, 4, 8, 1, 2, 3]
        orders = [0, 250] + RUN_REPEATED + [5, 1, 2, 3, 4, 5, 9, 129, 5, 0, 0, 8, 128, 4, 0]
        self.assertEqual(stands_for(data), (1, orders))


class WhatWaits(Case):

    def test_ahead_of_a_repeat(self):
        for length, orders in (
            (127, [126] + list(range(126)) + [250]),
            (128, [127] + list(range(127)) + [250]),
            (129, [127] + list(range(128)) + [0, 250]),
            (130, [127] + list(range(128)) + [1, 128, 250]),
        ):
            with self.subTest(length=length):
                self.assertEqual(stands_for(list(range(length - 1)) + RUN), (1, orders + RUN_REPEATED))

    def test_at_the_end(self):
        for length, orders in (
            (0, []),
            (1, [0, 0]),
            (127, [126] + list(range(127))),
            (128, [127] + list(range(128))),
            (129, [127] + list(range(128)) + [0, 128]),
            (256 - 6, [127] + list(range(128)) + [121] + list(range(128, 250))),
        ):
            with self.subTest(length=length):
                self.assertEqual(stands_for(RUN + list(range(length))), (1, [0, 250] + RUN_REPEATED + orders))

    def test_256_and_257(self):
        for length in (256, 257):
            row = no_three_twice(length)
            orders = [127] + row[:128] + [127] + row[128:256] + ([0, row[256]] if length == 257 else [])
            with self.subTest(length=length):
                self.assertEqual(stands_for(RUN + RUN[1:] + row)[1][-len(orders):], orders)

    def test_nothing_packs_to_nothing(self):
        self.assertEqual(pack([]), [])


class AsTheDocumentTellsIt(Case):

    def test_every_short_row_of_two_signs(self):
        for length in range(11):
            for which in range(2 ** length):
                data = [which >> place & 1 for place in range(length)]
                self.assertEqual(pack(data), plain_pack(data))

    def test_rows_by_chance(self):
        chance = random.Random(16)
        for signs, length in ((1, 700), (2, 700), (3, 900), (5, 900), (20, 700), (256, 500)):
            data = [chance.randrange(signs) for which in range(length)]
            with self.subTest(signs=signs):
                self.assertEqual(pack(data), plain_pack(data))

    def test_pieces_that_come_again(self):
        chance = random.Random(30)
        pieces = [[chance.randrange(256) for which in range(chance.randrange(1, 300))] for piece in range(6)]
        data = []
        while len(data) < 5500:
            piece = chance.choice(pieces)
            first = chance.randrange(len(piece))
            data += piece[first:] + [chance.randrange(256)]
        self.assertEqual(pack(data), plain_pack(data))


if __name__ == "__main__":
    unittest.main()
