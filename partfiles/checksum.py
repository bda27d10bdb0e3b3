"""The sum of bytes: CRC-32."""

ALL_ONES = 0xFFFFFFFF

# What four of the sum's eight steps bring in, for each value of the four lowest bits:
# two looks here stand for eight steps, since containers are long.
FOUR_STEPS = (
    0x00000000, 0x1DB71064, 0x3B6E20C8, 0x26D930AC,
    0x76DC4190, 0x6B6B51F4, 0x4DB26158, 0x5005713C,
    0xEDB88320, 0xF00F9344, 0xD6D6A3E8, 0xCB61B38C,
    0x9B64C2B0, 0x86D3D2D4, 0xA00AE278, 0xBDBDF21C,
)


def sum_of(data):
    rest = ALL_ONES
    for byte in data:
        rest = rest ^ byte
        rest = (rest >> 4) ^ FOUR_STEPS[rest & 15]
        rest = (rest >> 4) ^ FOUR_STEPS[rest & 15]
    return rest ^ ALL_ONES
