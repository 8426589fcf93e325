"""The stream: where each byte stands, and the first one that is wrong."""

from firsttree.builder import WRONG_NAME, Builder
from firsttree.head import HEAD_BYTES, TRAILER, Head, byte_fits, head_fits
from firsttree.zeros import zeros_behind

WRONG_HEAD_BYTE = 1
WRONG_HEAD = 2
NOT_ZERO = 6

# Where the next byte stands. The gap is before an archive: its bytes 0 belong
# to no archive, and any other byte is the first of a head.
GAP = 0
HEAD = 1
NAME = 2
NAME_ZEROS = 3
DATA = 4
DATA_ZEROS = 5


class Stream:
    def __init__(self):
        self.builder = Builder()
        # The first fault's code, 0 as long as there is none.
        self.code = 0
        # How many bytes stand before the fault, of no fault all that came.
        self.place = 0
        self.phase = GAP
        # The bytes so far of what is being read, and how many it will have.
        self.part = []
        self.wanted = HEAD_BYTES
        self.head = None
        self.name = ()

    def may_end(self):
        return self.code == 0 and self.phase == GAP

    def feed(self, row):
        for byte in row:
            if self.code != 0:
                return
            self.take(byte)

    def take(self, byte):
        self.code = self.byte_fault(byte)
        if self.code != 0:
            return
        self.place += 1
        if self.phase == GAP:
            if byte == 0:
                return
            self.phase = HEAD
        self.part.append(byte)
        if len(self.part) == self.wanted:
            self.end_part()

    def byte_fault(self, byte):
        if self.phase == GAP and byte == 0:
            return 0
        if self.phase in (GAP, HEAD) and not byte_fits(len(self.part), byte):
            return WRONG_HEAD_BYTE
        if self.phase in (NAME_ZEROS, DATA_ZEROS) and byte != 0:
            return NOT_ZERO
        return 0

    def begin(self, phase, wanted):
        self.phase = phase
        self.part = []
        self.wanted = wanted
        if wanted == 0:
            self.end_part()

    def end_part(self):
        if self.phase == HEAD:
            self.end_head()
        elif self.phase == NAME:
            self.end_name()
        elif self.phase == NAME_ZEROS:
            self.begin(DATA, self.head.size)
        elif self.phase == DATA:
            self.end_data()
        else:
            self.begin(HEAD, HEAD_BYTES)

    def end_head(self):
        self.head = Head(self.part)
        if head_fits(self.head):
            self.begin(NAME, self.head.length)
        else:
            self.code = WRONG_HEAD

    def end_name(self):
        self.name = tuple(self.part[:-1])
        self.code = self.name_fault()
        if self.code != 0:
            return
        if self.name == TRAILER:
            self.builder.end_archive()
            self.begin(GAP, HEAD_BYTES)
            return
        # Without data the item is whole now, ahead of the bytes 0.
        if self.head.size == 0:
            self.builder.do_item(self.head, self.name, ())
        self.begin(NAME_ZEROS, zeros_behind(HEAD_BYTES + self.head.length))

    def name_fault(self):
        if self.part[-1] != 0:
            return WRONG_NAME
        return self.builder.name_fault(self.head, self.name)

    def end_data(self):
        if self.head.size != 0:
            self.builder.do_item(self.head, self.name, tuple(self.part))
        self.begin(DATA_ZEROS, zeros_behind(self.head.size))
