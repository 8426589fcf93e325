"""Archives, items and their bytes 0: what the tree is at each place."""

import unittest

from archives import (
    DIRECTORY, FILE, LINK, STATE, ask, bare, directory, end, fault, feed, file, head, item, kind, last, link, shared,
    size, start, zeros,
)
from firsttree.stream import Stream

ENDS = (0, FILE, DIRECTORY, LINK)
ITEMS = [
    directory(b"."), directory(b"d"), file(b"d/f", b"12345"), shared(b"a"), shared(b"bcd", b"xyz"),
    link(b"d/link", b"to"), file(b"d/f", b"1234"), file(b"empty"), shared(b"last", b"q"),
]
LONG = (
    bytes(5) + b"".join(ITEMS) + end() + bytes(3)
    + shared(b"a") + file(b"bcd", b"123456") + end(DIRECTORY)
    + end(FILE) + bytes(1) + file(b"n", b"\0\0") + end(LINK) + bytes(6)
)
FAULTY = [
    LONG + b"x", LONG + file(b"x/y"), LONG[:200] + b"?" + LONG[201:], LONG[:700], b"".join(ITEMS) + b"\0",
    file(b"a", b"1")[:-1] + b"1" + LONG, file(b"abc")[:-2] + b"zz",
]
PATHS = (b"d", b"d/f", b"a", b"bcd", b"d/link", b"empty", b"last", b"n", b".", b"x")


def everything(*feeds):
    calls = [STATE] + [call for path in PATHS for call in (kind(path), size(path))]
    return ask(*feeds, *calls)[len(feeds) - 1:]


class TestCuts(unittest.TestCase):
    def test_cut_at_every_place(self):
        for stream in [LONG] + FAULTY:
            whole = everything(feed(stream))
            for cut in range(len(stream) + 1):
                self.assertEqual(everything(feed(stream[:cut]), feed(stream[cut:])), whole)

    def test_cut_twice_with_questions_between(self):
        whole = everything(feed(LONG))
        for cut in range(0, len(LONG), 7):
            for width in (1, 2, 110):
                first, middle, rest = LONG[:cut], LONG[cut:cut + width], LONG[cut + width:]
                told = everything(feed(first), STATE, feed(middle), kind(b"a"), size(b"a"), feed(b""), feed(rest))
                self.assertEqual(told, whole)

    def test_stretches_byte_by_byte(self):
        for stream in [LONG] + FAULTY:
            whole = ask(feed(stream), STATE)
            for cut in range(0, len(stream), 30):
                stretch = [feed(stream[at:at + 1]) for at in range(cut, cut + 30)]
                told = ask(feed(stream[:cut]), *stretch, feed(stream[cut + 30:]), STATE)
                self.assertEqual(told[-2:], whole)

    def test_whole_stream_byte_by_byte(self):
        for stream in [LONG] + FAULTY:
            whole = Stream()
            whole.feed(list(stream))
            cut = Stream()
            for byte in stream:
                cut.feed([byte])
            self.assertEqual([cut.code, cut.place, cut.may_end()], [whole.code, whole.place, whole.may_end()])
            self.assertEqual(vars(cut.builder.tree), vars(whole.builder.tree))

    def test_each_place_tells_its_own_prefix(self):
        for at in range(0, len(LONG), 35):
            step = [feed(LONG[at + more:at + more + 1]) for more in range(35)]
            told = ask(feed(LONG[:at]), *step)
            alone = [ask(feed(LONG[:at + more]))[0] for more in range(36)]
            self.assertEqual(told, alone)


class TestItems(unittest.TestCase):
    def check_whole_at(self, before, stream, whole, path, told, missing):
        """The item's path has what is told from this many bytes on, not sooner."""
        for cut in range(len(stream) + 1):
            expected = told if cut >= whole else missing
            self.assertEqual(last(before + stream[:cut], kind(path), size(path)), expected)
            self.assertEqual(fault(before + stream[:cut]), (0, len(before) + cut))

    def test_directory_once_its_name_is_whole(self):
        for name in (b"d", b"dir", b"direc", b"four"):
            stream = directory(name)
            self.check_whole_at(b"", stream, 111 + len(name), name, [[0, 2], [-2]], [[0, 0], [-1]])

    def test_empty_file_once_its_name_is_whole(self):
        for name in (b"f", b"abc", b"abcd", b"abcde"):
            self.check_whole_at(b"", file(name), 111 + len(name), name, [[0, 1], [0, 0]], [[0, 0], [-1]])

    def test_file_once_its_data_are_whole(self):
        for name in (b"f", b"abc", b"abcd", b"abcde"):
            for data in (b"1", b"12", b"123", b"1234", b"12345", b"\0\0"):
                whole = len(bare(name, FILE, data))
                stream = file(name, data)
                self.check_whole_at(b"", stream, whole, name, [[0, 1], [0, len(data)]], [[0, 0], [-1]])

    def test_link_once_its_text_is_whole(self):
        for text in (b"t", b"text", b"a/b/c", b"\0"):
            whole = len(bare(b"l", LINK, text))
            self.check_whole_at(b"", link(b"l", text), whole, b"l", [[0, 3], [0, len(text)]], [[0, 0], [-1]])

    def test_shared_file_of_size_0_once_its_name_is_whole(self):
        before = shared(b"a", b"123")
        self.check_whole_at(before, shared(b"b"), 112, b"b", [[0, 1], [0, 3]], [[0, 0], [-1]])

    def test_data_told_anew_once_they_are_whole(self):
        before = shared(b"a", b"123")
        whole = len(bare(b"b", FILE, b"12345"))
        self.check_whole_at(before, shared(b"b", b"12345"), whole, b"a", [[0, 1], [0, 5]], [[0, 1], [0, 3]])

    def test_the_new_thing_takes_the_old_ones_place(self):
        self.check_whole_at(file(b"f", b"12"), file(b"f", b"123"), 115, b"f", [[0, 1], [0, 3]], [[0, 1], [0, 2]])
        self.check_whole_at(file(b"f", b"12"), file(b"f"), 112, b"f", [[0, 1], [0, 0]], [[0, 1], [0, 2]])
        self.check_whole_at(link(b"l", b"ab"), link(b"l", b"xyz"), 115, b"l", [[0, 3], [0, 3]], [[0, 3], [0, 2]])
        self.check_whole_at(directory(b"d"), directory(b"d"), 0, b"d", [[0, 2], [-2]], None)

    def test_a_directory_told_again_keeps_what_is_in_it(self):
        stream = directory(b"d") + file(b"d/f", b"123") + directory(b"d")
        self.assertEqual(last(stream, STATE, size(b"d/f")), [[0, 0, len(stream), 0, 2, 3], [0, 3]])

    def test_root_does_nothing(self):
        for stream in (directory(b"."), directory(b".") + end(), directory(b".") + directory(b".")):
            self.assertEqual(last(stream, STATE)[0][1:3], [0, len(stream)])
            self.assertEqual(last(stream, STATE)[0][4:], [0, 0])
            self.assertEqual(last(stream, kind(b"."), size(b".")), [[0, 0], [-1]])

    def test_bytes_counted_at_each_place(self):
        stream = file(b"a", b"123") + shared(b"b", b"12") + shared(b"c", b"4567") + file(b"a", b"8") + link(b"l", b"zz")
        steps = [(115, 1, 3), (230, 2, 5), (348, 3, 7), (461, 3, 5), (578, 4, 5)]
        for cut in range(len(stream) + 1):
            reached = [(0, 0, 0)] + [step for step in steps if step[0] <= cut]
            self.assertEqual(last(stream[:cut], STATE)[0][4:], list(reached[-1][1:]))


class TestHeads(unittest.TestCase):
    def test_small_and_great_digits(self):
        for digits in ("%08x", "%08X"):
            stream = item(b"a", 0x8FFF, b"x" * 0xAB, serial=0xABCDEF, major=0xFF, other=0xFEDCBA98, digits=digits)
            self.assertEqual(last(stream, STATE, kind(b"a")), [[0, 0, len(stream), 0, 1, 171], [0, 1]])

    def test_small_and_great_digits_are_the_same_number(self):
        stream = shared(b"a", b"123", serial=0xABCDEF) + shared(b"b", serial=0xABCDEF, digits="%08x")
        self.assertEqual(last(stream, size(b"b")), [[0, 3]])

    def test_numbers_that_are_anything(self):
        for place in (2, 3, 5, 9, 10, 12):
            stream = file(b"a", b"12")
            at = 6 + 8 * place
            stream = stream[:at] + b"fFfFfFfF" + stream[at + 8:] + end()
            self.assertEqual(last(stream, STATE), [[0, 0, len(stream), 1, 1, 2]])

    def test_mode_below_the_kind_is_anything(self):
        for mode, number in ((0x8000, 1), (0x8FFF, 1), (0x4000, 2), (0x4FFF, 2)):
            self.assertEqual(last(item(b"a", mode), kind(b"a")), [[0, number]])
        for mode in (0xA000, 0xAFFF):
            self.assertEqual(last(item(b"a", mode, b"t"), kind(b"a")), [[0, 3]])
        for mode in (0, 0xFFF):
            self.assertEqual(fault(end(mode)), (0, 121))


class TestArchives(unittest.TestCase):
    def check_ending_at(self, stream, may_end):
        """may_end is a list of the stretches in which the stream may end."""
        for cut in range(len(stream) + 1):
            told = last(stream[:cut], STATE)[0]
            expected = 1 if any(first <= cut <= final for first, final in may_end) else 0
            self.assertEqual(told[:4], [0, 0, cut, expected], cut)

    def test_an_end_of_each_kind(self):
        for mode in ENDS:
            stream = bytes(2) + file(b"abc", b"12") + end(mode) + bytes(9)
            begun = 2 + 120
            self.check_ending_at(stream, [(0, 2), (begun + 121, len(stream))])

    def test_an_end_alone(self):
        for mode in ENDS:
            self.check_ending_at(end(mode), [(0, 0), (121, 121)])
            self.assertEqual(last(end(mode), STATE, kind(b"TRAILER!!!")), [[0, 0, 121, 1, 0, 0], [0, 0]])

    def test_an_ends_other_numbers_are_anything(self):
        for mode in ENDS:
            stream = end(mode, serial=7, names=2, major=1, minor=2, other=0xFFFFFFFF)
            self.assertEqual(last(stream, STATE), [[0, 0, 121, 1, 0, 0]])

    def test_several_archives(self):
        first = file(b"a", b"1") + end()
        second = directory(b"d") + end(LINK)
        third = file(b"d/x", b"22") + end(FILE)
        stream = first + second + bytes(1) + third + bytes(2)
        one = len(first)
        two = one + len(second)
        self.check_ending_at(stream, [(0, 0), (one, one), (two, two + 1), (len(stream) - 2, len(stream))])
        self.assertEqual(last(stream, STATE), [[0, 0, len(stream), 1, 3, 3]])

    def test_any_number_of_bytes_0_between(self):
        for before in range(9):
            for between in range(9):
                stream = bytes(before) + file(b"a", b"1") + end() + bytes(between) + file(b"b", b"22") + end()
                self.assertEqual(last(stream, STATE), [[0, 0, len(stream), 1, 2, 3]])

    def test_zeros_are_counted_from_the_heads_first_byte(self):
        stream = bytes(3) + file(b"ab", b"1") + file(b"c") + end()
        self.assertEqual(last(stream, STATE), [[0, 0, len(stream), 1, 2, 1]])

    def test_only_zeros(self):
        self.check_ending_at(bytes(20), [(0, 20)])

    def test_no_bytes_0_between_items(self):
        stream = file(b"a", b"1")
        self.assertEqual(fault(stream + b"\0"), (1, len(stream)))
        self.assertEqual(fault(stream + b"\0" + end()), (1, len(stream)))

    def test_the_name_within_a_path_is_no_end(self):
        stream = directory(b"d") + file(b"d/TRAILER!!!", b"1") + file(b"TRAILER!!") + file(b"trailer!!!")
        self.assertEqual(last(stream, STATE), [[0, 0, len(stream), 0, 4, 1]])

    def test_an_end_with_a_full_tree(self):
        stream = b"".join(directory(b"%d" % number) for number in range(16))
        for mode in ENDS:
            told = last(stream + directory(b".") + end(mode), STATE)
            self.assertEqual(told[0][1:], [0, len(stream) + 112 + 121, 1, 16, 0])

    def test_a_fault_may_not_end(self):
        for stream in (b"x", end() + b"x", bytes(2) + b"1", head(mode=0x1000)):
            self.assertEqual(last(stream, STATE)[0][3], 0)


class TestPaths(unittest.TestCase):
    def test_parts(self):
        for name in (b"...", b".a", b"a.", b"..a", b" ", b"\x01", b"\xff\xfe", b"-"):
            self.assertEqual(last(file(name, b"1"), kind(name)), [[0, 1]])
            within = directory(b"d") + file(b"d/" + name, b"1")
            self.assertEqual(last(within, kind(b"d/" + name)), [[0, 1]])

    def test_deep_paths(self):
        path = b"d"
        stream = directory(path)
        for number in range(14):
            path += b"/d"
            stream += directory(path)
        stream += file(path + b"/f", b"1")
        self.assertEqual(last(stream, STATE, kind(path + b"/f")), [[0, 0, len(stream), 0, 16, 1], [0, 1]])

    def test_longest_path(self):
        name = b"n" * 255
        self.assertEqual(last(file(name, b"12"), kind(name), size(name)), [[0, 1], [0, 2]])
        deep = b"d/" + b"n" * 253
        self.assertEqual(last(directory(b"d") + file(deep), kind(deep)), [[0, 1]])

    def test_a_path_that_begins_another(self):
        stream = file(b"ab", b"1") + file(b"a", b"22") + file(b"abc", b"333")
        self.assertEqual(last(stream, size(b"a"), size(b"ab"), size(b"abc")), [[0, 2], [0, 1], [0, 3]])


class TestMaker(unittest.TestCase):
    """The tests' own items are as the document draws them."""

    def test_an_item(self):
        expected = (
            b"070701" b"00000007" b"000081A4" b"00000000" b"00000000" b"00000002" b"00000000" b"00000003"
            b"00000000" b"00000000" b"00000000" b"00000000" b"00000002" b"00000000" b"a\0" b"xyz" b"\0"
        )
        self.assertEqual(shared(b"a", b"xyz"), expected)
        self.assertEqual(start(b"a", FILE, 3, serial=7, names=2), expected[:112])
        self.assertEqual(len(end()), 121)
        self.assertEqual(zeros(121), bytes(3))


if __name__ == "__main__":
    unittest.main()
