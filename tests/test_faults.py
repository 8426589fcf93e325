"""Each fault: its reasons, their edges, its place, and which one counts."""

import unittest

from archives import (
    DIRECTORY, FILE, LINK, NAME, STATE, ask, bare, directory, end, fault, feed, file, head, item, kind, last, link,
    shared, size, start,
)

MOST = 0xFFFFFFFF


def many(count):
    return b"".join(directory(b"%d" % number) for number in range(count))


class FaultCase(unittest.TestCase):
    def check(self, stream, code, place, before=b""):
        """The fault is told from the byte on that shows it, and not sooner."""
        shown = place + 1 if code in (1, 6) else place
        self.assertEqual(fault(before + stream), (code, len(before) + place))
        self.assertEqual(fault(before + stream[:shown]), (code, len(before) + place))
        self.assertEqual(fault(before + stream[:shown - 1]), (0, len(before) + shown - 1))
        self.assertEqual(fault(before + stream + b"?" * 300), (code, len(before) + place))

    def check_none(self, stream):
        self.assertEqual(fault(stream), (0, len(stream)))


class TestFault1(FaultCase):
    def test_each_place_of_the_head(self):
        good = head()
        for at in range(110):
            allowed = good[at:at + 1] if at < 6 else b"0123456789ABCDEFabcdef"
            for byte in b"\0\x01/0123456789:@AFGZ`afgz\xff ":
                wrong = good[:at] + bytes([byte])
                if byte in allowed or (at == 0 and byte == 0):
                    self.check_none(wrong)
                else:
                    self.check(wrong + good[at + 1:], 1, at)

    def test_each_byte_as_a_digit(self):
        for byte in range(256):
            stream = head()[:20] + bytes([byte])
            if chr(byte) in "0123456789abcdefABCDEF":
                self.check_none(stream)
            else:
                self.check(stream, 1, 20)

    def test_the_numbers_that_are_anything_are_digits_too(self):
        for number in (2, 3, 5, 9, 10, 12):
            at = 6 + 8 * number
            self.check(head()[:at] + b"g" + head()[at + 1:], 1, at)

    def test_before_an_archive(self):
        for before in (b"", bytes(3), end(), end() + bytes(7), file(b"a") + end()):
            for byte in range(1, 256):
                if byte != ord("0"):
                    self.check(bytes([byte]), 1, 0, before)

    def test_bytes_0_once_an_archive_is_begun(self):
        self.check(b"\0", 1, 0, b"0")
        self.check(b"\0", 1, 0, file(b"a", b"1"))
        self.check(b"\0", 1, 0, file(b"a"))
        self.check(b"\0", 1, 0, directory(b"."))

    def test_in_a_later_head(self):
        self.check(b"070702", 1, 5, file(b"a", b"12"))
        self.check(b"070701" + b"0" * 50 + b"x", 1, 56, bytes(3) + file(b"a", b"12") + end() + bytes(2))


class TestFault2(FaultCase):
    def test_kinds(self):
        for number in range(1, 20):
            for mode in (number * 4096, number * 4096 + 4095):
                stream = head(mode, size=1 if number == 10 else 0)
                if number in (4, 8, 10):
                    self.check_none(stream)
                else:
                    self.check(stream, 2, 110)
        for mode in (0x181A4, 0x10041ED, 0x8000A1FF, MOST, 0x80000000, 0x10000):
            self.check(head(mode), 2, 110)

    def test_length(self):
        for mode in (FILE, DIRECTORY, LINK, 0):
            one = 1 if mode == LINK else 0
            for length in (2, 3, 11, 255, 256):
                self.check_none(head(mode, size=one, length=length))
            for length in (0, 1, 257, 258, 0x102, 0x10002, MOST):
                self.check(head(mode, size=one, length=length), 2, 110)

    def test_size_of_a_directory_and_of_kind_0(self):
        for mode in (DIRECTORY, 0):
            for wrong in (1, 2, 4, MOST):
                self.check(head(mode, size=wrong, length=11), 2, 110)
            self.check_none(head(mode, size=0, length=11))

    def test_size_of_a_link(self):
        for right in (0, 1, 254, 255):
            self.check_none(head(LINK, size=right))
        for wrong in (256, 257, 0x1000, MOST):
            self.check(head(LINK, size=wrong), 2, 110)

    def test_size_of_a_file_is_anything_here(self):
        for right in (0, 1, 255, 256, 600, 601, MOST):
            self.check_none(head(FILE, size=right))

    def test_place_in_a_later_item(self):
        self.check(head(FILE, length=1), 2, 110, bytes(5) + file(b"a", b"1"))
        self.check(head(0x1000), 2, 110, file(b"a") + end() + bytes(1))

    def test_digits_come_first(self):
        self.check(head(0x1000, length=0)[:109] + b"x", 1, 109)


class TestFault3(FaultCase):
    def check_name(self, name, mode=FILE, size=0, before=b""):
        stream = head(mode, size, length=len(name)) + name
        self.check(stream, 3, 110 + len(name), before)

    def test_last_byte(self):
        for name in (b"ab", b"abc\x01", b"\0a", b"x" * 256, NAME, NAME + b"!", b"..", b"d/"):
            for mode in (FILE, DIRECTORY):
                self.check_name(name, mode)
        self.check_name(b"ab", LINK, 1)
        self.check_name(NAME + b"!", 0)

    def test_no_path(self):
        for name in (b"/", b"/a", b"a/", b"a//b", b"..", b"./a", b"a/.", b"a/./b", b"../a", b"a/..", b"a/../b", b"//",
                     b"\0", b"a\0", b"a\0b", b"a/\0", NAME + b"\0", NAME + b"/", b"/" + NAME, b"./"):
            for mode, data in ((FILE, 0), (FILE, 5), (DIRECTORY, 0), (LINK, 3)):
                self.check_name(name + b"\0", mode, data)
                self.check_name(name + b"\0", mode, data, directory(b"a"))

    def test_root_of_another_kind(self):
        for mode, data in ((FILE, 0), (FILE, 1), (LINK, 0), (LINK, 1), (0, 0)):
            self.check_name(b".\0", mode, data)
        self.check_none(directory(b"."))

    def test_trailer_with_data(self):
        for mode, data in ((FILE, 1), (FILE, 600), (FILE, MOST), (LINK, 1), (LINK, 255)):
            self.check_name(NAME + b"\0", mode, data)

    def test_kind_0_with_another_name(self):
        for name in (b"a", b".", b"..", b"TRAILER!!", b"TRAILER!!!!", b"trailer!!!", b"a/b", b"x" * 255):
            self.check_name(name + b"\0", 0)

    def test_link_without_text(self):
        for name in (b"a", b"x" * 255, b"."):
            self.check_name(name + b"\0", LINK, 0)
        self.check_none(end(LINK))
        self.check_none(link(b"a", b"1"))
        self.check_none(link(b"a", b"1" * 255))

    def test_place_in_a_later_item(self):
        self.check_name(b"a/\0", FILE, 0, bytes(3) + directory(b"a") + end() + bytes(2) + directory(b"."))


class TestFault4(FaultCase):
    def check_item(self, before, name, mode, size=0):
        stream = start(name, mode, size)
        self.check(stream, 4, len(stream), before)

    def test_no_parent(self):
        for mode, data in ((FILE, 0), (FILE, 3), (DIRECTORY, 0), (LINK, 2)):
            self.check_item(b"", b"a/b", mode, data)
            self.check_item(directory(b"a"), b"b/a", mode, data)
            self.check_item(directory(b"a"), b"a/b/c", mode, data)
            self.check_item(directory(b"a"), b"A/b", mode, data)
            self.check_item(directory(b"ab"), b"a/b", mode, data)
            self.check_item(directory(b"."), b"TRAILER!!!/b", mode, data)

    def test_parent_is_no_directory(self):
        for before in (file(b"a"), file(b"a", b"1"), link(b"a", b"."), directory(b"d") + link(b"a", b"d")):
            for mode, data in ((FILE, 0), (FILE, 3), (DIRECTORY, 0), (LINK, 2)):
                self.check_item(before, b"a/b", mode, data)

    def test_something_of_another_kind(self):
        things = {FILE: file(b"a", b"1"), DIRECTORY: directory(b"a"), LINK: link(b"a", b"1")}
        for had, before in things.items():
            for mode in things:
                if mode == had:
                    self.check_none(before + things[mode])
                else:
                    self.check_item(before, b"a", mode, 1 if mode == LINK else 0)
                    self.check_item(before + end(), b"a", mode, 1 if mode == LINK else 0)

    def test_a_shared_file_where_a_directory_is(self):
        stream = start(b"a", FILE, 0, serial=7, names=2)
        self.check(stream, 4, 112, shared(b"b", b"1") + directory(b"a"))

    def test_the_tree_stays(self):
        before = directory(b"a") + file(b"f", b"12")
        told = last(before + file(b"a") + file(b"f", b"1"), STATE, kind(b"a"), size(b"f"))
        self.assertEqual(told, [[0, 4, len(before) + 112, 0, 2, 2], [0, 2], [0, 2]])

    def test_a_parent_of_an_earlier_archive(self):
        self.check_none(directory(b"a") + end() + file(b"a/b", b"1") + end())


class TestRoomForPaths(FaultCase):
    def test_the_16th_and_the_17th(self):
        for mode, data in ((FILE, b""), (FILE, b"1"), (DIRECTORY, b""), (LINK, b"1")):
            self.check_none(many(15) + item(b"x", mode, data))
            stream = start(b"x", mode, len(data))
            self.check(stream, 5, 112, many(16))
            self.check(stream, 5, 112, many(15) + item(b"y", mode, data) + end() + bytes(2))

    def test_a_path_that_is_there_already(self):
        before = many(13) + file(b"f", b"1") + link(b"l", b"1") + shared(b"s", b"2")
        stream = before + file(b"f", b"22") + link(b"l", b"22") + directory(b"0") + shared(b"s") + directory(b".")
        self.assertEqual(last(stream, STATE), [[0, 0, len(stream), 0, 16, 3]])
        self.check(start(b"x", FILE, 0, serial=7, names=2), 5, 112, stream)

    def test_all_of_files_and_all_of_links(self):
        files = b"".join(file(b"%d" % number) for number in range(16))
        links = b"".join(link(b"%d" % number, b"x" * 255) for number in range(16))
        self.assertEqual(last(files, STATE), [[0, 0, len(files), 0, 16, 0]])
        self.assertEqual(last(links, STATE), [[0, 0, len(links), 0, 16, 0]])
        self.check(start(b"x", DIRECTORY, 0), 5, 112, files)
        self.check(start(b"x", LINK, 1), 5, 112, links)

    def test_in_a_directory(self):
        self.check(start(b"0/x", DIRECTORY, 0), 5, 114, many(16))


class TestRoomForBytes(FaultCase):
    def check_size(self, before, name, size, room, **rest):
        stream = start(name, FILE, size, **rest)
        if room:
            self.assertEqual(fault(before + stream), (0, len(before + stream)))
            whole = before + item(name, FILE, b"x" * size, **rest)
            self.assertEqual(fault(whole), (0, len(whole)))
        else:
            self.check(stream, 5, len(stream), before)

    def test_600_and_601(self):
        self.check_size(b"", b"a", 600, True)
        self.check_size(b"", b"a", 601, False)
        self.check_size(b"", b"a", MOST, False)
        for had in (1, 299, 599, 600):
            before = file(b"a", b"1" * had)
            self.check_size(before, b"b", 600 - had, True)
            self.check_size(before, b"b", 601 - had, False)
            self.check_size(before + end(), b"b", 601 - had, False)

    def test_of_many_files(self):
        before = b"".join(file(b"%d" % number, b"x" * 40) for number in range(15))
        self.check_size(before, b"a", 0, True)
        self.check_size(before, b"a", 1, False)
        self.assertEqual(last(before, STATE)[0][4:], [15, 600])

    def test_links_texts_are_not_counted(self):
        before = link(b"l", b"x" * 255) + link(b"m", b"x" * 255) + link(b"n", b"x" * 255)
        self.check_size(before, b"a", 600, True)
        self.check_size(before, b"a", 601, False)
        self.check_none(file(b"a", b"x" * 600) + before)

    def test_the_file_that_the_path_had_is_left_out(self):
        before = file(b"a", b"x" * 500) + file(b"b", b"x" * 100)
        self.check_size(before, b"a", 500, True)
        self.check_size(before, b"a", 501, False)
        self.check_size(before, b"b", 100, True)
        self.check_size(before, b"b", 101, False)

    def test_the_file_that_another_path_has_too_is_not_left_out(self):
        before = shared(b"a", b"x" * 500) + shared(b"b")
        self.check_size(before, b"a", 100, True)
        self.check_size(before, b"a", 101, False)
        self.check_size(before + file(b"b"), b"a", 600, True)
        self.check_size(before + file(b"b"), b"a", 601, False)

    def test_a_shared_file_counts_once(self):
        before = b"".join(shared(b"%d" % number, b"x" * 600) for number in range(10))
        self.assertEqual(last(before, STATE)[0][4:], [10, 600])
        self.check_size(before, b"a", 0, True)
        self.check_size(before, b"a", 1, False)
        self.check_size(before, b"a", 600, True, serial=7, names=2)
        self.check_size(before, b"a", 601, False, serial=7, names=2)

    def test_data_told_anew_take_the_old_ones_place(self):
        before = shared(b"a", b"x" * 500) + file(b"f", b"x" * 100)
        self.check_size(before, b"b", 500, True, serial=7, names=2)
        self.check_size(before, b"b", 501, False, serial=7, names=2)
        self.check_size(before, b"b", 0, True, serial=7, names=2)
        self.check_size(before, b"a", 500, True, serial=7, names=2)
        self.check_size(before, b"a", 501, False, serial=7, names=2)
        self.check_size(before, b"b", 1, False, serial=7, names=1)
        self.check_size(before + end(), b"b", 1, False, serial=7, names=2)

    def test_a_path_that_goes_over_frees_its_old_file(self):
        before = shared(b"a", b"x" * 300) + file(b"f", b"x" * 300)
        self.check_size(before, b"f", 600, True, serial=7, names=2)
        self.check_size(before, b"f", 601, False, serial=7, names=2)
        self.check_size(before, b"f", 0, True, serial=7, names=2)

    def test_a_gone_file_makes_room(self):
        before = shared(b"a", b"x" * 600) + file(b"a")
        self.check_size(before, b"b", 600, True, serial=7, names=2)
        self.check_size(before, b"b", 601, False, serial=7, names=2)

    def test_half_a_file_is_not_counted(self):
        stream = file(b"a", b"x" * 600)
        self.assertEqual(last(stream[:-1], STATE)[0][4:], [0, 0])
        self.assertEqual(last(stream, STATE)[0][4:], [1, 600])

    def test_nothing_else_is_refused_for_room(self):
        archives = b"".join(shared(b"a", b"x" * 600, serial=number) + end() + bytes(100) for number in range(8))
        self.assertEqual(last(archives, STATE), [[0, 0, len(archives), 1, 1, 600]])
        serials = b"".join(shared(b"a", serial=number) for number in range(70))
        self.assertEqual(last(serials, STATE), [[0, 0, len(serials), 0, 1, 0]])
        ends = b"".join(end() for number in range(66))
        self.assertEqual(last(ends, STATE), [[0, 0, len(ends), 1, 0, 0]])
        links = b"".join(link(b"l", b"x" * 255) for number in range(21))
        self.assertEqual(last(links, STATE), [[0, 0, len(links), 0, 1, 0]])


class TestFault6(FaultCase):
    def check_zeros(self, before, first, count, rest=b""):
        """Each of this many bytes behind before + first has to be 0."""
        for at in range(count):
            for byte in (1, 48, 255):
                stream = first + bytes(at) + bytes([byte]) + bytes(count - at - 1) + rest
                self.check(stream, 6, len(first) + at, before)
        self.assertEqual(fault(before + first + bytes(count) + rest), (0, len(before + first + rest) + count))

    def test_behind_the_name(self):
        for before in (b"", bytes(3), directory(b"q") + end() + bytes(1)):
            for name, count in ((b"a", 0), (b"ab", 3), (b"abc", 2), (b"abcd", 1), (b"abcde", 0), (b"abcdef", 3)):
                for mode, data in ((FILE, b""), (FILE, b"12"), (DIRECTORY, b""), (LINK, b"12")):
                    self.check_zeros(before, start(name, mode, len(data)), count, data)

    def test_behind_the_data(self):
        for before in (b"", bytes(3), directory(b"q") + end() + bytes(1)):
            for data, count in ((b"1", 3), (b"12", 2), (b"123", 1), (b"1234", 0), (b"12345", 3)):
                for mode in (FILE, LINK):
                    self.check_zeros(before, bare(b"ab", mode, data), count)

    def test_behind_the_root(self):
        self.check_zeros(b"", directory(b"."), 0)
        self.check(directory(b".") + b"\1", 1, 112)

    def test_an_item_of_size_0_is_done(self):
        stream = start(b"ab", FILE, 0) + b"x"
        self.assertEqual(last(stream, STATE, kind(b"ab")), [[0, 6, 113, 0, 1, 0], [0, 1]])

    def test_an_item_with_data_is_not_done_behind_its_name(self):
        stream = start(b"ab", FILE, 3) + b"x"
        self.assertEqual(last(stream, STATE, kind(b"ab")), [[0, 6, 113, 0, 0, 0], [0, 0]])

    def test_an_item_is_done_behind_its_data(self):
        stream = bare(b"a", FILE, b"123") + b"x"
        self.assertEqual(last(stream, STATE, size(b"a")), [[0, 6, 115, 0, 1, 3], [0, 3]])

    def test_no_zeros_behind_an_archives_end(self):
        self.check_none(end() + file(b"a"))
        self.check(b"x", 1, 0, end())


class TestOnePlace(FaultCase):
    """Where several faults stand at one place the first of the list counts."""

    def test_3_before_4(self):
        self.check(start(b"q/..", FILE, 0), 3, 115)
        self.check(start(b"a", LINK, 0), 3, 112, directory(b"a"))
        self.check(start(b"a", 0, 0), 3, 112, directory(b"a"))
        self.check(head(FILE, length=4) + b"q/ab", 3, 114)

    def test_3_before_5(self):
        self.check(start(b"x/", DIRECTORY, 0), 3, 113, many(16))
        self.check(start(b"x//y", FILE, 601), 3, 115)
        self.check(start(NAME, FILE, 601), 3, 121, many(16))
        self.check(start(b".", FILE, 601), 3, 112)

    def test_4_before_5(self):
        self.check(start(b"x/y", FILE, 0), 4, 114, many(16))
        self.check(start(b"x/y", FILE, 601), 4, 114)
        self.check(start(b"0", FILE, 601), 4, 112, many(16))

    def test_3_4_and_5_before_6(self):
        self.check(start(b"a/", FILE, 0) + b"x", 3, 113)
        self.check(start(b"a/b", FILE, 0) + b"x", 4, 114)
        self.check(start(b"ab", FILE, 601) + b"x", 5, 113)

    def test_a_name_s_fault_before_the_next_head_s(self):
        self.check(start(b"a", LINK, 0) + b"x", 3, 112)
        self.check(start(b"a", FILE, 0) + b"x", 4, 112, directory(b"a"))
        self.check(start(b"a", FILE, 0) + b"x", 5, 112, many(16))

    def test_2_before_a_name(self):
        self.check(head(0x1000, length=0) + b"x", 2, 110)
        self.check(head(DIRECTORY, size=1, length=2) + b"xx", 2, 110)


class TestFirstFault(FaultCase):
    def test_whatever_comes_behind(self):
        wrong = [
            (b"x", 1, 0), (head(0x1000), 2, 110), (start(b"..", FILE, 0), 3, 113), (start(b"a/b", FILE, 0), 4, 114),
            (start(b"a", FILE, 601), 5, 112), (start(b"ab", DIRECTORY, 0) + b"1", 6, 113),
        ]
        before = bytes(2) + file(b"f", b"12") + end() + link(b"l", b"abc")
        for stream, code, place in wrong:
            expected = [0, code, len(before) + place]
            kept = [0 if code != 6 else 1, 2]
            for behind in [b"", b"\0", bytes(500), file(b"g", b"1"), end(), b"070701"] + [other[0] for other in wrong]:
                told = ask(feed(before + stream + behind), STATE, feed(behind), STATE, kind(b"g"), size(b"f"))
                state = expected + [0, 2 + kept[0], 2]
                self.assertEqual(told, [expected, state, expected, state, [0, 0], [0, 2]])


if __name__ == "__main__":
    unittest.main()
