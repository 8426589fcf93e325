"""The call write, and what its bytes make when they are fed again."""

import unittest

from archives import (
    FILE, LINK, RESET, STATE, WRITE, about, ask, ask_behind, directory, end, feed, file, following, item,
    kind, last, link, names, read, same, shared, size, start, written,
)
from firsttree.desk import Desk, answers

# As the document draws it, digit by digit.
NONE = b"00000000"
EMPTY = b"070701" + NONE * 4 + b"00000001" + NONE * 6 + b"0000000B" + NONE + b"TRAILER!!!\0" + bytes(3)
FOUR = (
    b"070701" b"00000001" b"000081A4" b"00000000" b"00000000" b"00000002" b"00000000" b"00000005"
    b"00000000" b"00000000" b"00000000" b"00000000" b"00000002" b"00000000" b"a\0" b"12345" b"\0\0\0"
    b"070701" b"00000000" b"000041ED" b"00000000" b"00000000" b"00000002" b"00000000" b"00000000"
    b"00000000" b"00000000" b"00000000" b"00000000" b"00000003" b"00000000" b"bb\0" b"\0\0\0"
    b"070701" b"00000001" b"000081A4" b"00000000" b"00000000" b"00000002" b"00000000" b"00000000"
    b"00000000" b"00000000" b"00000000" b"00000000" b"00000005" b"00000000" b"bb/c\0" b"\0"
    b"070701" b"00000000" b"0000A1FF" b"00000000" b"00000000" b"00000001" b"00000000" b"00000004"
    b"00000000" b"00000000" b"00000000" b"00000000" b"00000004" b"00000000" b"ddd\0" b"\0\0" b"bb/c"
) + EMPTY


def archive(*items):
    return b"".join(items) + EMPTY


class TestWrite(unittest.TestCase):
    def check(self, stream, *items):
        self.assertEqual(written(stream), archive(*items))

    def test_an_empty_tree(self):
        self.assertEqual(len(EMPTY), 124)
        self.assertEqual(ask(WRITE), [[0, *EMPTY]])
        for stream in (b"", bytes(4), end(), directory(b"."), file(b"a", b"1")[:-5], b"x", b"07", end() + b"x"):
            self.check(stream)

    def test_each_kind_digit_by_digit(self):
        stream = link(b"ddd", b"bb/c") + directory(b"bb") + shared(b"bb/c") + shared(b"a", b"12345")
        self.assertEqual(written(stream), FOUR)

    def test_a_directory(self):
        self.check(directory(b"d"), directory(b"d", names=2))
        self.check(directory(b"d", names=9, serial=5), directory(b"d", names=2))

    def test_a_file(self):
        self.check(file(b"f", b"12"), file(b"f", b"12", serial=1))
        self.check(file(b"f"), file(b"f", serial=1))
        self.check(shared(b"f", b"12", names=7, serial=9), file(b"f", b"12", serial=1, names=1))
        self.check(file(b"f", b"12", names=0), file(b"f", b"12", serial=1, names=1))

    def test_a_link(self):
        self.check(link(b"l", b"text"), link(b"l", b"text"))
        self.check(link(b"l", b"\0\xff" * 127, names=5, serial=6), link(b"l", b"\0\xff" * 127))

    def test_names_and_data_of_each_length(self):
        for name in (b"a", b"ab", b"abc", b"abcd", b"abcde", b"x" * 252, b"x" * 253, b"x" * 254, b"x" * 255):
            for data in (b"", b"1", b"12", b"123", b"1234", b"12345"):
                self.check(file(name, data), file(name, data, serial=1))
                if data:
                    self.check(link(name, data), link(name, data))
            self.check(directory(name), directory(name, names=2))

    def test_great_digits(self):
        for length in (9, 10, 15, 16, 171, 255, 256, 495, 600):
            data = bytes(number % 256 for number in range(length))
            self.check(file(b"f", data), file(b"f", data, serial=1))

    def test_paths_order(self):
        paths = [b"\x01", b"A", b"a", b"a-", b"a/b", b"a/b-", b"a/b/c", b"a/b0", b"a0", b"aa", b"\x7f", b"\x80", b"\xff"]
        stream = directory(b"a") + directory(b"a/b") + b"".join(
            link(path, path) for path in reversed(paths) if path not in (b"a", b"a/b"))
        self.check(stream, *[
            directory(path, names=2) if path in (b"a", b"a/b") else link(path, path) for path in paths
        ])

    def test_an_archives_end_within_a_path(self):
        stream = directory(b"d") + file(b"d/TRAILER!!!") + file(b"TRAILER!!", b"1")
        self.check(
            stream, file(b"TRAILER!!", b"1", serial=1), directory(b"d", names=2), file(b"d/TRAILER!!!", serial=2))

    def test_things_told_anew(self):
        stream = file(b"f", b"12") + link(b"l", b"to") + directory(b"d") + file(b"d/f", b"1")
        stream += end() + file(b"f", b"345") + link(b"l", b"away") + directory(b"d")
        self.check(
            stream, directory(b"d", names=2), file(b"d/f", b"1", serial=1), file(b"f", b"345", serial=2),
            link(b"l", b"away"))


class TestSeveralNames(unittest.TestCase):
    check = TestWrite.check

    def test_data_at_the_first_path_alone(self):
        expected = [shared(b"a", b"123", serial=1, names=3)]
        expected += [shared(path, serial=1, names=3) for path in (b"b", b"c")]
        self.check(shared(b"a", b"123") + shared(b"b") + shared(b"c"), *expected)
        self.check(shared(b"c", b"123") + shared(b"b") + shared(b"a"), *expected)
        self.check(shared(b"b") + shared(b"a") + shared(b"c", b"123"), *expected)
        self.check(shared(b"b", b"9") + shared(b"a", b"88") + shared(b"c", b"123"), *expected)

    def test_a_file_of_no_bytes(self):
        self.check(
            shared(b"b") + shared(b"a") + file(b"c"),
            shared(b"a", serial=1), shared(b"b", serial=1), file(b"c", serial=2))

    def test_serials_by_the_first_path(self):
        stream = (
            shared(b"z", b"1", serial=50) + shared(b"b", serial=40) + shared(b"x", b"22", serial=40)
            + directory(b"a") + link(b"c", b"q", serial=3) + file(b"d", b"333") + shared(b"a/a", serial=50) + file(b"y")
        )
        self.check(
            stream, directory(b"a", names=2), shared(b"a/a", b"1", serial=1), shared(b"b", b"22", serial=2),
            link(b"c", b"q"), file(b"d", b"333", serial=3), shared(b"x", serial=2), file(b"y", serial=4),
            shared(b"z", serial=1))

    def test_two_files_of_the_same_bytes(self):
        self.check(
            shared(b"a", b"1") + end() + shared(b"b", b"1"),
            file(b"a", b"1", serial=1), file(b"b", b"1", serial=2))

    def test_sixteen_names_and_sixteen_serials(self):
        paths = sorted(b"%d" % number for number in range(16))
        one = b"".join(shared(path, serial=0xFFFFFFFF) for path in paths[1:]) + shared(paths[0], b"q", serial=0xFFFFFFFF)
        self.check(one, *[shared(path, b"q" if path == b"0" else b"", serial=1, names=16) for path in paths])
        self.check(
            b"".join(file(path, path) for path in paths),
            *[file(path, path, serial=serial) for serial, path in enumerate(paths, start=1)])
        for count in (9, 10, 11, 15):
            self.check(
                b"".join(shared(path) for path in paths[:count]),
                *[shared(path, serial=1, names=count) for path in paths[:count]])

    def test_a_path_that_went_over(self):
        one = shared(b"a", b"12") + shared(b"b")
        self.check(one + file(b"a", b"3"), file(b"a", b"3", serial=1), file(b"b", b"12", serial=2))
        self.check(one + file(b"b"), file(b"a", b"12", serial=1), file(b"b", serial=2))
        self.check(one + file(b"a") + file(b"b"), file(b"a", serial=1), file(b"b", serial=2))
        three = one + shared(b"c")
        self.check(
            three + file(b"a", b"3"), file(b"a", b"3", serial=1), shared(b"b", b"12", serial=2), shared(b"c", serial=2))


FULL = (
    directory(b"d") + b"".join(file(b"d/%d" % number, b"x" * 100) for number in range(5)) + shared(b"d/s")
    + shared(b"s", b"y" * 97) + file(b"t", b"123") + b"".join(link(b"l%d" % number, b"z" * 255) for number in range(3))
    + directory(b"e") + directory(b"e/" + b"n" * 253) + file(b"m") + file(b"\xff" * 255)
)
LONGEST = directory(b"n" * 120) + b"".join(
    shared(b"n" * 120 + b"/" + bytes([98 + number]) * 134, b"q" * 600 if number == 7 else b"") for number in range(15)
)
OTHER_FORMS = (
    bytes(7) + directory(b".") + item(b"d", 0x4000, serial=0xFFFFFFFF, names=0, other=0xFEDCBA98, digits="%08x")
    + item(b"d/b", 0x8FFF, b"123", serial=0xABCDEF01, names=0xFFFFFFFF, major=0xA, minor=0xB, other=0x1234, digits="%08x")
    + item(b"d/a", 0x8000, serial=0xABCDEF01, names=3, major=0xA, minor=0xB, other=1) + end(FILE, serial=9) + bytes(3)
    + item(b"l", 0xAFFF, b"text", serial=0xABCDEF01, names=2, other=0xFFFFFFFF, digits="%08x")
    + item(b"d/c", 0x8123, b"9", serial=0xABCDEF01, names=2, major=0xA, minor=0xB) + end(LINK, other=5)
)
STREAMS = [
    b"", FOUR, FULL, LONGEST, OTHER_FORMS,
    shared(b"a", b"1") + shared(b"b") + end() + shared(b"b", b"22") + shared(b"c") + end() + b"x",
    shared(b"b") + shared(b"a") + shared(b"c") + file(b"d") + file(b"e", b"12345") + file(b"f", b"67")[:-3],
    directory(b"a") + directory(b"a/b") + link(b"a-", b"a") + link(b"a/b/c", b"a/b") + file(b"a0") + link(b"\xff", b"\0"),
    file(b"abc", b"1" * 599) + link(b"TRAILER!!", b"x") + directory(b"d") + file(b"d/TRAILER!!!", b"1") + file(b"over", b"1"),
]


class TestWholeTrees(unittest.TestCase):
    check = TestWrite.check

    def test_sixteen_paths_and_600_bytes(self):
        self.assertEqual(last(FULL, STATE), [[0, 0, len(FULL), 0, 16, 600]])
        items = [directory(b"d", names=2)]
        items += [file(b"d/%d" % number, b"x" * 100, serial=number + 1) for number in range(5)]
        items += [shared(b"d/s", b"y" * 97, serial=6), directory(b"e", names=2), directory(b"e/" + b"n" * 253, names=2)]
        items += [link(b"l%d" % number, b"z" * 255) for number in range(3)]
        items += [file(b"m", serial=7), shared(b"s", serial=6), file(b"t", b"123", serial=8), file(b"\xff" * 255, serial=9)]
        self.check(FULL, *items)

    def test_long_paths(self):
        self.assertEqual(last(LONGEST, STATE), [[0, 0, len(LONGEST), 0, 16, 600]])
        home = b"n" * 120
        items = [
            shared(home + b"/" + bytes([98 + number]) * 134, b"q" * 600 if number == 0 else b"", serial=1, names=15)
            for number in range(15)
        ]
        self.check(LONGEST, directory(home, names=2), *items)

    def test_archives_of_other_forms(self):
        self.assertEqual(last(OTHER_FORMS, STATE), [[0, 0, len(OTHER_FORMS), 1, 5, 4]])
        self.check(
            OTHER_FORMS, directory(b"d", names=2), shared(b"d/a", b"123", serial=1), shared(b"d/b", serial=1),
            file(b"d/c", b"9", serial=2), link(b"l", b"text"))


class TestAnyMoment(unittest.TestCase):
    TREE = shared(b"b", b"12") + directory(b"d") + shared(b"a") + link(b"d/l", b"b")
    ARCHIVE = archive(
        shared(b"a", b"12", serial=1), shared(b"b", serial=1), directory(b"d", names=2), link(b"d/l", b"b"))

    def check_written(self, *before):
        told = ask(*before, STATE, WRITE, WRITE, STATE)
        self.assertEqual(told[-3:-1], [[0, *self.ARCHIVE]] * 2)
        self.assertEqual(told[-1], told[-4])
        return told[-1]

    def test_within_and_behind_an_archive(self):
        self.check_written(feed(self.TREE))
        self.check_written(feed(self.TREE + end()))
        self.check_written(feed(self.TREE + end() + bytes(9)))

    def test_behind_a_fault(self):
        wrong = [b"x", start(b"", FILE, 0), start(b"..", FILE, 0), start(b"d", FILE, 0), start(b"c", FILE, 601)]
        for code, stream in enumerate(wrong, start=1):
            state = self.check_written(feed(self.TREE + stream + file(b"c")), feed(end()))
            self.assertEqual(state[1], code)
        self.assertEqual(self.check_written(feed(self.TREE[:-1] + b"x"))[1], 6)

    def test_in_the_middle_of_an_item(self):
        for begun in (file(b"c", b"345"), shared(b"a", b"999"), link(b"d/l", b"a" * 9)):
            for cut in range(len(begun) - 4):
                self.check_written(feed(self.TREE + begun[:cut]))

    def test_behind_reset(self):
        self.check_written(feed(file(b"z", b"1") + b"x"), WRITE, RESET, feed(self.TREE))
        self.assertEqual(ask(feed(self.TREE), WRITE, RESET, WRITE)[-1], [0, *EMPTY])

    def test_cut_at_every_place_and_written_between(self):
        for cut in range(len(self.TREE) + 1):
            self.check_written(feed(self.TREE[:cut]), WRITE, feed(self.TREE[cut:]))

    def test_written_ahead_of_more_items(self):
        """Writing gives no serial that a later item could be taken by."""
        told = ask(feed(self.TREE), WRITE, feed(shared(b"c", serial=1)), names(b"c"), feed(shared(b"e")), names(b"e"))
        self.assertEqual(told[3], [0, 1, 99])
        self.assertEqual(told[5], [0, 1, 97, 1, 98, 1, 101])


class TestBack(unittest.TestCase):
    def paths_of(self, stream):
        paths = []
        path = last(stream, following(b""))[0]
        while path[0] == 0:
            paths.append(bytes(path[1:]))
            path = last(stream, following(paths[-1]))[0]
        return paths

    def everything(self, stream, paths):
        calls = about(paths + [b"", b"other"]) + [WRITE]
        return ask_behind([feed(stream)], calls), last(stream, STATE)[0][4:]

    def test_the_same_tree_and_the_same_bytes(self):
        for stream in STREAMS:
            back = written(stream)
            paths = self.paths_of(stream)
            self.assertEqual(self.paths_of(back), paths)
            self.assertEqual(self.everything(back, paths), self.everything(stream, paths))
            self.assertEqual(written(back), back)
            self.assertEqual(last(back, STATE)[0][:4], [0, 0, len(back), 1])

    def test_byte_by_byte(self):
        for stream in STREAMS:
            back = written(stream)
            desk = Desk()
            for at, byte in enumerate(back, start=1):
                self.assertEqual(desk.answer(2, [], [[byte]]), [0, 0, at])
            self.assertEqual(bytes(desk.answer(10, [], [])[1:]), back)
            self.assertEqual(desk.answer(3, [], []), last(back, STATE)[0])
            for path in self.paths_of(stream):
                told = [desk.answer(call, [], [list(path)]) for call in (4, 5, 8, 9)]
                told += [desk.answer(6, [0, 1000], [list(path)]), desk.answer(7, [], [list(path), [97]])]
                calls = (kind(path), size(path), following(path), names(path), read(path), same(path, b"a"))
                self.assertEqual(told, last(stream, *calls))

    def test_stretches_byte_by_byte(self):
        for cut in range(0, len(FOUR), 35):
            stretch = [feed(FOUR[at:at + 1]) for at in range(cut, cut + 35)]
            self.assertEqual(ask(feed(FOUR[:cut]), *stretch, feed(FOUR[cut + 35:]), WRITE)[-1], [0, *FOUR])

    def test_fed_behind_the_same_tree(self):
        """Fed to an object that has the tree already it leaves it as it is."""
        for stream in (FOUR, OTHER_FORMS, STREAMS[7] + end()):
            back = written(stream)
            self.assertEqual(written(stream + back), back)

    def test_a_fault_behind_what_was_written(self):
        back = written(FULL)
        self.assertEqual(ask(feed(back + b"x"), WRITE), [[0, 1, len(back)], [0, *back]])

    def test_written_bytes_are_whole_numbers(self):
        told = answers(feed(FULL) + WRITE)
        self.assertEqual({type(number) for number in told}, {int})
        self.assertEqual(told[4], len(told) - 5)
        self.assertEqual(told[4] % 4, 1)


if __name__ == "__main__":
    unittest.main()
