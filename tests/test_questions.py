"""The calls read, same, next and names."""

import unittest

from archives import (
    DIRECTORY, FILE, LINK, RESET, STATE, about, ask, ask_behind, directory, end, feed, file, following, item, last, link,
    names, read, same, shared, start,
)

DATA = bytes(range(250, 256)) + bytes(3) + b"end"
# The paths' order is not the one in which they come, and d- stands between d
# and what is in it.
TREE = (
    directory(b"d") + file(b"d/f", DATA) + shared(b"d/s") + shared(b"b", b"xyz") + link(b"d/l", b"to/f")
    + file(b"g", b"xyz") + file(b"e") + directory(b"d/d") + shared(b"a") + file(b"d-", b"1") + link(b"\xc3\xa4", b"d")
)
FILES = {b"a": b"xyz", b"b": b"xyz", b"d/s": b"xyz", b"d/f": DATA, b"g": b"xyz", b"e": b"", b"d-": b"1"}
LINKS = {b"d/l": b"to/f", b"\xc3\xa4": b"d"}
DIRECTORIES = [b"d", b"d/d"]
ORDERED = [b"a", b"b", b"d", b"d-", b"d/d", b"d/f", b"d/l", b"d/s", b"e", b"g", b"\xc3\xa4"]
ONE_FILE = [b"a", b"b", b"d/s"]
NO_PATHS = [b"", b".", b"..", b"/", b"/a", b"a/", b"d//f", b"d/.", b"d/../a", b"a\0", b"\0", b"TRAILER!!!",
            b"a" * 256, b"d/" + b"f" * 998, bytes(1000), b"\xff" * 1000, b"\xff", b"c", b"D", b"d/a", b"x" * 255]


def names_told(paths):
    return [0] + [number for path in paths for number in (len(path), *path)]


def read_told(path, start, most):
    data = {**FILES, **LINKS}.get(path)
    if data is None:
        return [-2] if path in DIRECTORIES else [-1]
    return [0, *data[start:][:most]]


def same_told(path, other):
    return [0, 1 if path in FILES and path == other or path in ONE_FILE and other in ONE_FILE else 0]


def following_told(path):
    return next(([0, *other] for other in ORDERED if other > path), [-1])


def names_of(path):
    if path in FILES:
        return names_told(ONE_FILE if path in ONE_FILE else [path])
    return [-2] if path in ORDERED else [-1]


def expected_answers():
    """Each question about TREE with its answer."""
    pairs = []
    for path in ORDERED + NO_PATHS:
        pairs.append((following(path), following_told(path)))
        pairs.append((names(path), names_of(path)))
        for begun, most in ((0, 1000000), (0, 0), (0, 3), (1, 2), (2, 1000000), (1000000, 1000000)):
            pairs.append((read(path, begun, most), read_told(path, begun, most)))
        for other in (b"b", b"g", b"d/f", b"d", b"d/l", b"nothing", b"", path):
            pairs.append((same(path, other), same_told(path, other)))
            pairs.append((same(other, path), same_told(other, path)))
    return pairs


class TestEverywhere(unittest.TestCase):
    """The same tree in every state of the stream answers the same."""

    def check(self, *before):
        pairs = expected_answers()
        told = ask_behind(before, [call for call, _ in pairs])
        self.assertEqual(told, [answer for _, answer in pairs])

    def test_within_the_archive(self):
        self.check(feed(TREE))

    def test_behind_the_archive(self):
        self.check(feed(TREE + end() + bytes(3)))

    def test_behind_a_fault_of_each_code(self):
        big = start(b"z", FILE, 601)
        faulty = [TREE + wrong for wrong in (b"x", start(b"", FILE, 0), start(b"a/", FILE, 0), start(b"a/b", FILE, 0), big)]
        faulty.append(TREE[:-1] + b"x")
        for code, stream in enumerate(faulty, start=1):
            self.assertEqual(ask(feed(stream))[0][1], code)
            self.check(feed(stream), feed(file(b"c") + end()))

    def test_in_the_middle_of_an_item(self):
        for begun in (file(b"c", b"1234"), shared(b"c", b"1234"), shared(b"a", b"12"), link(b"d/l", b"x" * 20)):
            for cut in (1, 6, 109, 110, 111, 112, len(begun) - 5):
                self.check(feed(TREE + begun[:cut]))

    def test_behind_reset(self):
        self.check(feed(file(b"z", b"1") + shared(b"a", b"q") + b"x"), RESET, feed(TREE))

    def test_cut_and_asked_between(self):
        for cut in (3, 111, 300, 700, 1000):
            between = [read(b"a"), same(b"a", b"b"), following(b""), names(b"a")]
            self.check(feed(TREE[:cut]), *between, feed(TREE[cut:]))

    def test_a_new_object(self):
        for before in ([], [RESET], [feed(TREE), RESET], [feed(TREE + b"x"), RESET], [feed(TREE[:100])],
                       [feed(b"")], [feed(bytes(5))], [feed(directory(b".") + end())], [feed(b"x")]):
            for path in [b"a", b"d"] + NO_PATHS:
                calls = [read(path), read(path, 0, 0), same(path, path), same(path, b"a"), following(path), names(path)]
                self.assertEqual(ask_behind(before, calls), [[-1], [-1], [0, 0], [0, 0], [-1], [-1]])


class TestRead(unittest.TestCase):
    def check_cuts(self, stream, path, data):
        size = len(data)
        for begun in sorted({0, 1, size // 2, max(0, size - 1), size, size + 1, 1000, 1000000}):
            rest = data[begun:]
            for most in sorted({0, 1, max(0, len(rest) - 1), len(rest), len(rest) + 1, 600, 1000000}):
                self.assertEqual(last(stream, read(path, begun, most)), [[0, *rest[:most]]])

    def test_a_file(self):
        for data in (b"1", b"12", b"12345", bytes(range(256)), bytes(9), bytes(range(200)) * 3):
            self.check_cuts(file(b"f", data), b"f", data)

    def test_a_file_of_no_bytes(self):
        self.check_cuts(file(b"f"), b"f", b"")

    def test_a_links_text(self):
        for text in (b"t", b"to/../somewhere", b"\0\xff\0", b"x" * 255):
            self.check_cuts(link(b"l", text), b"l", text)

    def test_by_each_of_its_paths(self):
        stream = shared(b"a") + shared(b"b", b"12345") + shared(b"c")
        for path in (b"a", b"b", b"c"):
            self.check_cuts(stream, path, b"12345")

    def test_told_anew(self):
        stream = shared(b"a", b"12345") + shared(b"b", b"678")
        self.check_cuts(stream, b"a", b"678")
        self.assertEqual(last(stream + file(b"a", b"9"), read(b"a"), read(b"b")), [[0, 57], [0, 54, 55, 56]])
        self.assertEqual(last(link(b"l", b"12") + link(b"l", b"3"), read(b"l")), [[0, 51]])

    def test_nothing_and_a_directory(self):
        for begun in (0, 1, 1000000):
            for most in (0, 1, 1000000):
                told = last(TREE, read(b"c", begun, most), read(b"d", begun, most), read(b"", begun, most))
                self.assertEqual(told, [[-1], [-2], [-1]])

    def test_the_root_has_nothing(self):
        self.assertEqual(last(directory(b"."), read(b"."), names(b".")), [[-1], [-1]])

    def test_all_bytes_piece_by_piece(self):
        stream = file(b"f", bytes(range(256)))
        pieces = last(stream, *[read(b"f", at, 7) for at in range(0, 260, 7)])
        self.assertEqual([number for piece in pieces for number in piece[1:]], list(range(256)))


class TestSame(unittest.TestCase):
    def check(self, stream, path, other, told):
        self.assertEqual(last(stream, same(path, other), same(other, path)), [[0, told]] * 2)

    def test_a_file_with_itself(self):
        for stream in (file(b"a"), file(b"a", b"1"), shared(b"a"), shared(b"a", b"1") + shared(b"b")):
            self.check(stream, b"a", b"a", 1)

    def test_two_paths_of_one_file(self):
        for stream in (shared(b"a") + shared(b"b"), shared(b"b", b"1") + shared(b"a"), shared(b"a") + shared(b"b", b"1")):
            self.check(stream, b"a", b"b", 1)

    def test_two_files_of_the_same_bytes(self):
        self.check(file(b"a") + file(b"b"), b"a", b"b", 0)
        self.check(file(b"a", b"12") + file(b"b", b"12"), b"a", b"b", 0)
        self.check(shared(b"a", b"12") + shared(b"b", b"12", serial=8), b"a", b"b", 0)
        self.check(shared(b"a", b"12", major=1) + shared(b"b", b"12", minor=1), b"a", b"b", 0)
        self.check(shared(b"a", b"12") + end() + shared(b"b", b"12"), b"a", b"b", 0)
        self.check(shared(b"a", b"12", names=1) + shared(b"b", b"12"), b"a", b"b", 0)

    def test_a_file_told_anew(self):
        one = shared(b"a", b"1") + shared(b"b")
        self.check(one + shared(b"a", b"22"), b"a", b"b", 1)
        self.check(one + file(b"a", b"1"), b"a", b"b", 0)
        self.check(one + end() + shared(b"a", b"1"), b"a", b"b", 0)
        self.check(one + file(b"a") + shared(b"a"), b"a", b"b", 1)
        self.check(one + file(b"a") + file(b"b") + shared(b"a") + shared(b"b"), b"a", b"b", 1)

    def test_of_three_paths(self):
        stream = shared(b"a", serial=1) + shared(b"b", serial=2) + shared(b"c", serial=1)
        self.check(stream, b"a", b"c", 1)
        self.check(stream, b"a", b"b", 0)
        self.check(stream, b"b", b"c", 0)

    def test_things_that_are_no_file(self):
        stream = directory(b"d") + directory(b"e") + link(b"l", b"f") + link(b"m", b"f") + file(b"f", b"f")
        for path in (b"d", b"e", b"l", b"m", b"nothing", b"", b".", b"f/", b"f" * 256, b"f" * 1000):
            for other in (path, b"d", b"e", b"l", b"m", b"f", b"none", b""):
                self.check(stream, path, other, 0)

    def test_rows_of_different_lengths(self):
        stream = directory(b"d") + shared(b"d/long") + shared(b"a")
        self.check(stream, b"a", b"d/long", 1)
        self.assertEqual(last(stream, same(b"", b"a"), same(b"a", b""), same(b"", b""), STATE)[:3], [[0, 0]] * 3)


class TestNext(unittest.TestCase):
    def walk(self, *before):
        """From no bytes on, call by call."""
        path = b""
        found = []
        while True:
            told = ask(*before, following(path))[-1]
            if told == [-1]:
                return found
            self.assertEqual(told[0], 0)
            path = bytes(told[1:])
            found.append(path)

    def check(self, paths):
        stream = b"".join(file(path, path[:30]) for path in paths)
        self.assertEqual(self.walk(feed(stream)), sorted(paths))

    def test_every_path_once_and_in_order(self):
        self.assertEqual(self.walk(feed(TREE)), ORDERED)
        self.assertEqual(self.walk(feed(TREE + b"x")), ORDERED)
        self.assertEqual(self.walk(feed(TREE), RESET), [])
        self.assertEqual(self.walk(feed(TREE), RESET, feed(file(b"q") + file(b"p")[:50])), [b"q"])
        self.assertEqual(self.walk(), [])

    def test_one_that_begins_another(self):
        self.check([b"abc", b"ab", b"a", b"abd", b"abcd", b"b"])
        self.check([b"x" * 255, b"x" * 254, b"x"])

    def test_bytes_above_127(self):
        self.check([b"\xff", b"\x80", b"\x7f", b"\x01", b"a\xff", b"a\x80", b"a\x7f", b"a", b"\xff\xff"])

    def test_a_slash_is_a_byte_as_others(self):
        stream = directory(b"a") + b"".join(file(path) for path in (b"a0", b"a/b", b"a.", b"a-", b"ab", b"A"))
        self.assertEqual(self.walk(feed(stream)), [b"A", b"a", b"a-", b"a.", b"a/b", b"a0", b"ab"])

    def test_sixteen_paths(self):
        self.check([b"%d" % (number * 7 % 16) for number in range(16)])

    def test_between_paths(self):
        stream = file(b"b") + file(b"bb") + directory(b"d") + link(b"d/x", b"1") + file(b"\x90")
        for path, told in (
            (b"", b"b"), (b"\0", b"b"), (b"a", b"b"), (b"a\xff", b"b"), (b"b", b"bb"), (b"b\0", b"bb"), (b"ba", b"bb"),
            (b"bb", b"d"), (b"bb\0", b"d"), (b"bba", b"d"), (b"c", b"d"), (b"d", b"d/x"), (b"d/", b"d/x"),
            (b"d/w\xff", b"d/x"), (b"d/x", b"\x90"), (b"d/x/", b"\x90"), (b"/", b"b"), (b".", b"b"), (b"..", b"b"),
            (b"\x8f\xff", b"\x90"), (b"b" * 1000, b"d"), (b"a" * 256, b"b"), (b"d" * 255, b"\x90"), (bytes(1000), b"b"),
        ):
            self.assertEqual(last(stream, following(path)), [[0, *told]], path)
        for path in (b"\x90", b"\x90\0", b"\x91", b"\xff", b"\xff" * 1000, b"\x90" * 255):
            self.assertEqual(last(stream, following(path)), [[-1]], path)

    def test_an_empty_tree(self):
        for path in (b"", b"a", b"\0", b"\xff" * 1000):
            self.assertEqual(ask(following(path)), [[-1]])

    def test_half_an_item_has_no_place(self):
        stream = file(b"a") + file(b"b", b"12")
        self.assertEqual(last(stream[:112 + 113], following(b"a")), [[-1]])
        self.assertEqual(last(stream, following(b"a")), [[0, 98]])


class TestNames(unittest.TestCase):
    def check(self, stream, *groups):
        """Each group of paths has one file, and this in the order given."""
        for group in groups:
            for path in group:
                self.assertEqual(last(stream, names(path)), [names_told(group)])

    def test_one_path(self):
        self.check(file(b"a"), [b"a"])
        self.check(file(b"a", b"1") + file(b"b", b"1"), [b"a"], [b"b"])
        self.check(shared(b"name", names=9), [b"name"])
        self.check(file(b"x" * 255), [b"x" * 255])

    def test_several_in_paths_order(self):
        stream = (
            directory(b"a") + shared(b"b") + shared(b"a0") + shared(b"a/b") + shared(b"ab") + shared(b"a-")
            + shared(b"\xff") + shared(b"\x7f")
        )
        self.check(stream, [b"a-", b"a/b", b"a0", b"ab", b"b", b"\x7f", b"\xff"])

    def test_several_files(self):
        stream = b"".join(shared(b"%d" % number, serial=number % 3) for number in range(16))
        groups = [sorted(b"%d" % number for number in range(rest, 16, 3)) for rest in range(3)]
        self.check(stream, *groups)

    def test_sixteen_paths_of_one_file(self):
        paths = [bytes([97 + number]) * (number + 1) for number in range(16)]
        self.check(b"".join(shared(path) for path in reversed(paths)), paths)

    def test_a_path_that_went_over(self):
        one = shared(b"a", b"1") + shared(b"b") + shared(b"c")
        self.check(one, [b"a", b"b", b"c"])
        self.check(one + file(b"b"), [b"a", b"c"], [b"b"])
        self.check(one + file(b"a"), [b"a"], [b"b", b"c"])
        self.check(one + shared(b"b", serial=8) + shared(b"d", serial=8), [b"a", b"c"], [b"b", b"d"])
        self.check(one + file(b"b") + shared(b"b"), [b"a", b"b", b"c"])

    def test_archives_apart(self):
        stream = shared(b"a") + shared(b"c") + end() + shared(b"b") + shared(b"d")
        self.check(stream, [b"a", b"c"], [b"b", b"d"])

    def test_no_file(self):
        stream = directory(b"d") + link(b"l", b"d") + file(b"d/f")
        told = last(stream, names(b"d"), names(b"l"), names(b"d/l"), names(b""), names(b"d" * 1000), names(b"d/f/"))
        self.assertEqual(told, [[-2], [-2], [-1], [-1], [-1], [-1]])

    def test_half_an_item_is_no_name(self):
        stream = shared(b"a", b"1") + shared(b"b", b"2")
        self.assertEqual(last(stream[:116 + 112], names(b"a"), names(b"b")), [names_told([b"a"]), [-1]])
        self.check(stream, [b"a", b"b"])


class TestCutsAndItems(unittest.TestCase):
    STREAM = (
        bytes(2) + directory(b"d") + shared(b"b", b"12") + shared(b"a") + link(b"l", b"abc") + end() + bytes(1)
        + shared(b"a", b"345") + item(b"d", DIRECTORY, names=2, serial=7) + shared(b"d/x") + item(b"l", LINK, b"z") + b"x"
    )
    PATHS = (b"a", b"b", b"l", b"d", b"d/x")

    def test_cut_at_every_place(self):
        calls = about((b"a", b"l"))
        whole = last(self.STREAM, *calls)
        for cut in range(len(self.STREAM) + 1):
            self.assertEqual(ask(feed(self.STREAM[:cut]), feed(self.STREAM[cut:]), *calls)[2:], whole)

    def test_tree_at_every_place(self):
        """Between two items' ends nothing that is told changes."""
        one = 2 + len(directory(b"d"))
        two = one + len(shared(b"b", b"12"))
        three = two + 112
        second = three + len(link(b"l", b"abc")) + 121 + 1
        four = second + len(shared(b"a", b"345"))
        last_items = four + 112
        steps = [
            (0, [[-1], [-1], [-1], [0, 0], [-1], [-1]]),
            (one, [[-1], [-1], [-1], [0, 0], [0, 100], [-1]]),
            (two - 2, [[-1], [0, 49, 50], [-1], [0, 0], [0, 98], [0, 1, 98]]),
            (three, [[0, 49, 50], [0, 49, 50], [-1], [0, 1], [0, 97], [0, 1, 97, 1, 98]]),
            (three + 112 + 3, [[0, 49, 50], [0, 49, 50], [0, 97, 98, 99], [0, 1], [0, 97], [0, 1, 97, 1, 98]]),
            (four - 1, [[0, 51, 52, 53], [0, 49, 50], [0, 97, 98, 99], [0, 0], [0, 97], [0, 1, 98]]),
            (last_items + 114 + 2 + 112 + 1, [[0, 51, 52, 53], [0, 49, 50], [0, 122], [0, 0], [0, 97], [0, 1, 98]]),
        ]
        for cut in range(len(self.STREAM) + 1):
            expected = [told for begun, told in steps if begun <= cut][-1]
            told = last(
                self.STREAM[:cut], read(b"a"), read(b"b"), read(b"l"), same(b"a", b"b"), following(b""), names(b"b"),
            )
            self.assertEqual(told, expected, cut)


if __name__ == "__main__":
    unittest.main()
