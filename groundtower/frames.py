"""Frames, as they go over the air: 16 bytes, the last four a check of the twelve before."""

from groundtower.limits import LAST_VEHICLE

TO_VEHICLE = 1
TO_TOWER = 2

POLYNOMIAL = 0x82F63B78
ALL_ONES = 0xFFFFFFFF


def low_byte_first(number):
    return [number & 255, (number >> 8) & 255, (number >> 16) & 255, (number >> 24) & 255]


# CRC-32C, bit by bit: frames are short and few, so a table would not pay.
def check_of(head):
    rest = ALL_ONES
    for byte in head:
        rest = rest ^ byte
        for bit in range(8):
            if rest & 1 == 1:
                rest = (rest >> 1) ^ POLYNOMIAL
            else:
                rest = rest >> 1
    return rest ^ ALL_ONES


def make_frame(kind, vehicle, piece, number):
    head = [kind, vehicle, piece, 0] + low_byte_first(number) + [0, 0, 0, 0]
    return head + low_byte_first(check_of(head))


def vehicle_in(frame):
    return frame[1]


def piece_in(frame):
    return frame[2]


def number_in(frame):
    return frame[4] | (frame[5] << 8) | (frame[6] << 16) | (frame[7] << 24)


def is_right(frame, kind):
    if vehicle_in(frame) > LAST_VEHICLE or number_in(frame) == 0:
        return False
    # One frame alone is right for each vehicle, piece and number, so making it anew judges kind, zeros and check.
    return frame == make_frame(kind, vehicle_in(frame), piece_in(frame), number_in(frame))
