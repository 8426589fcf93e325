"""An item's head: which bytes may stand in it, and what its numbers say."""

from firsttree.kinds import DIRECTORY, FILE, LINK, NOTHING
from firsttree.paths import is_path

HEAD_BYTES = 110
# The bytes of 070701.
MARK = (48, 55, 48, 55, 48, 49)
DIGITS = 8
# An item of kind 0 puts nothing anywhere: it is an archive's end alone.
KINDS = {8: 1, 4: 2, 10: 3, 0: 0}
SHORTEST_NAME = 2
LONGEST_NAME = 256
LONGEST_TEXT = 255
# The bytes of TRAILER!!!
TRAILER = (84, 82, 65, 73, 76, 69, 82, 33, 33, 33)
# The byte of the one name that is no path and may stand all the same.
ROOT = (46,)


class Head:
    def __init__(self, row):
        self.serial = number_at(row, 0)
        # None if the mode says no kind that there is.
        self.kind = KINDS.get(number_at(row, 1) // 4096)
        self.names = number_at(row, 4)
        self.size = number_at(row, 6)
        self.major = number_at(row, 7)
        self.minor = number_at(row, 8)
        self.length = number_at(row, 11)


# Less than 0 for a byte that is no hexadecimal digit.
def digit_of(byte):
    if 48 <= byte <= 57:
        return byte - 48
    if 65 <= byte <= 70:
        return byte - 55
    if 97 <= byte <= 102:
        return byte - 87
    return -1


# The way back: the byte of a digit, of the letters the great one.
def byte_of(digit):
    if digit < 10:
        return digit + 48
    return digit + 55


def digits_of(number):
    row = []
    while len(row) < DIGITS:
        row.append(byte_of(number % 16))
        number //= 16
    row.reverse()
    return row


# A head whose other numbers are all 0.
def head_row(serial, mode, names, size, length):
    row = list(MARK)
    for number in (serial, mode, 0, 0, names, 0, size, 0, 0, 0, 0, length, 0):
        row.extend(digits_of(number))
    return row


def number_at(row, which):
    start = len(MARK) + DIGITS * which
    number = 0
    for byte in row[start:start + DIGITS]:
        number = number * 16 + digit_of(byte)
    return number


def byte_fits(at, byte):
    if at < len(MARK):
        return byte == MARK[at]
    return digit_of(byte) >= 0


def head_fits(head):
    if head.kind is None:
        return False
    if head.length < SHORTEST_NAME or head.length > LONGEST_NAME:
        return False
    if head.kind == FILE:
        return True
    if head.kind == LINK:
        return head.size <= LONGEST_TEXT
    return head.size == 0


# The name comes without its last byte.
def name_fits(head, name):
    if name == TRAILER:
        return head.size == 0
    if head.kind == NOTHING:
        return False
    if head.kind == LINK and head.size == 0:
        return False
    if name == ROOT:
        return head.kind == DIRECTORY
    return is_path(name)
