"""Random streams against a second, plain reading of the document.

The model reads a whole stream at once, item by item, with Python's own bytes;
the random numbers are the same each time.
"""

import random
import re
import unittest

from archives import (
    DIRECTORY, FILE, LINK, STATE, WRITE, about, ask, ask_behind, end, feed, following, item, kind, names, read, same, size,
    written,
)

PATH = re.compile(rb"(?!\.{1,2}(/|\Z))[^\0/]+(/(?!\.{1,2}(/|\Z))[^\0/]+)*\Z", re.DOTALL)
ARCHIVE_END = b"TRAILER!!!"


class Wrong(Exception):
    """A fault: code and place."""


class Cut(Exception):
    """The stream stops here."""


class File:
    def __init__(self, data):
        self.data = data


class Model:
    def __init__(self, stream):
        self.stream = stream
        self.at = 0
        self.tree = {}
        self.ended = True
        self.fault = (0, len(stream))
        try:
            while True:
                self.archive()
        except Wrong as wrong:
            self.fault = wrong.args
            self.ended = False
        except Cut:
            pass

    def need(self, length):
        if self.at + length > len(self.stream):
            raise Cut
        self.at += length
        return self.stream[self.at - length:self.at]

    def zeros(self, length):
        for _ in range(length):
            if self.need(1) != b"\0":
                raise Wrong(6, self.at - 1)

    def archive(self):
        while self.stream[self.at:self.at + 1] == b"\0":
            self.at += 1
        if self.at == len(self.stream):
            raise Cut
        self.ended = False
        self.earlier = []
        while self.one_item():
            pass
        self.ended = True

    def numbers(self):
        text = self.stream[self.at:self.at + 110]
        for place in range(len(text)):
            if place < 6:
                good = text[place] == b"070701"[place]
            else:
                good = chr(text[place]) in "0123456789abcdefABCDEF"
            if not good:
                raise Wrong(1, self.at + place)
        self.need(110)
        return [int(text[at:at + 8], 16) for at in range(6, 110, 8)]

    def one_item(self):
        begun = self.at
        serial, mode, _, _, names, _, length, major, minor, _, _, name_length, _ = self.numbers()
        what = {8: 1, 4: 2, 10: 3, 0: 0}.get(mode >> 12)
        if what is None or not 2 <= name_length <= 256 or what in (0, 2) and length or what == 3 and length > 255:
            raise Wrong(2, self.at)
        name = self.need(name_length)
        if self.name_is_wrong(what, name, length):
            raise Wrong(3, self.at)
        name = name[:-1]
        if name == ARCHIVE_END:
            return False
        mark = (serial, major, minor) if names >= 2 and what == 1 else None
        after = self.tree if name == b"." else self.tree_behind(what, name, length, mark)
        if not length:
            self.tree = self.done(after, what, name, b"", mark)
        self.zeros(-(self.at - begun) % 4)
        data = self.need(length)
        if length:
            self.tree = self.done(after, what, name, data, mark)
        self.zeros(-length % 4)
        return True

    def name_is_wrong(self, what, name, length):
        if name[-1] != 0:
            return True
        name = name[:-1]
        if not PATH.match(name) and not (name == b"." and what == 2):
            return True
        if name == ARCHIVE_END:
            return length != 0
        return what == 0 or what == 3 and length == 0

    def shared_file(self, mark):
        living = [thing for _, thing in self.tree.values() if isinstance(thing, File)]
        for earlier, thing in self.earlier:
            if mark is not None and earlier == mark and any(thing is other for other in living):
                return thing
        return None

    def tree_behind(self, what, name, length, mark):
        if b"/" in name and self.tree.get(name.rpartition(b"/")[0], (0,))[0] != 2:
            raise Wrong(4, self.at)
        if name in self.tree and self.tree[name][0] != what:
            raise Wrong(4, self.at)
        after = dict(self.tree)
        after[name] = (what, None)
        if len(after) > 16:
            raise Wrong(5, self.at)
        if what == 1:
            self.check_room(after, name, length, self.shared_file(mark))
        return after

    def check_room(self, after, name, length, old):
        sizes = {id(thing): len(thing.data) for other, (what, thing) in after.items() if what == 1 and other != name}
        if old is None:
            sizes["new"] = length
        else:
            sizes[id(old)] = length or len(old.data)
        if sum(sizes.values()) > 600:
            raise Wrong(5, self.at)

    def done(self, after, what, name, data, mark):
        if name == b".":
            return after
        thing = data
        if what == 1:
            thing = self.shared_file(mark)
            if thing is None:
                thing = File(data)
            elif data:
                thing.data = data
            self.earlier.append((mark, thing))
        after[name] = (what, thing)
        return after

    def state(self):
        files = {id(thing): thing for what, thing in self.tree.values() if what == 1}
        total = sum(len(thing.data) for thing in files.values())
        return [0, *self.fault, 1 if self.ended else 0, len(self.tree), total]

    def kind(self, path):
        return [0, self.tree.get(path, (0,))[0]]

    def size(self, path):
        what, thing = self.tree.get(path, (0, None))
        if what in (0, 2):
            return [-1 - what // 2]
        return [0, len(thing.data if what == 1 else thing)]

    def read(self, path, start, most):
        what, thing = self.tree.get(path, (0, None))
        if what in (0, 2):
            return [-1 - what // 2]
        data = thing.data if what == 1 else thing
        return [0] + [data[at] for at in range(len(data)) if at >= start and at - start < most]

    def paths_with(self, thing):
        return sorted(path for path in self.tree if self.tree[path][0] == 1 and self.tree[path][1] is thing)

    def same(self, path, other):
        what, thing = self.tree.get(path, (0, None))
        return [0, int(what == 1 and other in self.paths_with(thing))]

    def following(self, path):
        later = [other for other in self.tree if other > path]
        return [0, *min(later)] if later else [-1]

    def names(self, path):
        what, thing = self.tree.get(path, (0, None))
        if what != 1:
            return [-2] if what else [-1]
        return [0] + [number for other in self.paths_with(thing) for number in [len(other), *other]]

    def write(self):
        archive = b""
        files = []
        for path in sorted(self.tree):
            what, thing = self.tree[path]
            if what == 1:
                group = self.paths_with(thing)
                if group[0] == path:
                    files.append(thing)
                serial = [each is thing for each in files].index(True) + 1
                archive += item(path, FILE, thing.data if group[0] == path else b"", serial=serial, names=len(group))
            elif what == 2:
                archive += item(path, DIRECTORY, names=2)
            else:
                archive += item(path, LINK, thing)
        return [0, *archive, *end(), 0, 0, 0]


PATHS = [b"a", b"b", b"cc", b"ddd", b"a/a", b"a/b", b"a/ccc", b"eeee", b"f", b"g", b"."]
MORE = [b"%d" % number for number in range(9)]
ODD = [b"b/b", b"a/a/a", b"cc/x", b"..", b"a/", b"/a", b"a//b", b"a/.", b"x" * 255, b"TRAILER!!!", b"a\0b", b"TRAILER!!!/a", b"..."]


def random_item(dice, homes):
    name = dice.choice(PATHS + MORE if dice.random() < 0.985 else ODD)
    mode = homes.setdefault(name, dice.choice([FILE, FILE, FILE, DIRECTORY, LINK]))
    if dice.random() < 0.01:
        mode = dice.choice([FILE, DIRECTORY, LINK, 0, 0x1000, 0x181A4])
    length = dice.choice([0, 1, 2, 3, 4, 5, 60, 100, 130, dice.randrange(300)])
    if mode == DIRECTORY or mode == 0 or dice.random() < 0.3 and mode == FILE:
        length = 0
    if mode == LINK:
        length = dice.choice([1, 2, 3, 4, 255, dice.randrange(1, 256)] + [0, 256] * (dice.random() < 0.05))
    data = bytes(dice.randrange(256) for _ in range(length))
    return item(
        name, mode, data, serial=dice.randrange(2), names=dice.choice([0, 1, 2, 2, 2, 3]),
        major=dice.choice([0, 0, 0, 1]), minor=dice.choice([0, 0, 0, 1]), other=dice.randrange(1 << 32),
        digits=dice.choice(["%08x", "%08X"]),
    )


def random_stream(dice):
    homes = {b".": DIRECTORY, b"a": DIRECTORY, b"a/a": dice.choice([FILE, DIRECTORY])}
    stream = bytes(dice.choice([0, 0, 1, 5])) + item(b"a", DIRECTORY)
    for _ in range(dice.randrange(1, 40)):
        stream += random_item(dice, homes)
        if dice.random() < 0.12:
            stream += end(dice.choice([0, FILE, DIRECTORY, LINK])) + bytes(dice.randrange(8))
        if len(stream) > 6000:
            break
    stream = stream[:7000]
    if dice.random() < 0.3:
        at = dice.randrange(len(stream))
        if dice.random() < 0.5:
            at = max(0, stream.find(b"\0\0", at))
        stream = stream[:at] + bytes([dice.choice([0, 1, 47, 48, 49, 65, 255])]) + stream[at + 1:]
    if dice.random() < 0.2:
        stream = stream[:dice.randrange(len(stream) + 1)]
    return stream


def last_state(stream):
    return ask(feed(stream), STATE)[1]


def random_questions(dice, model, count):
    """Questions, and what the model answers to them."""
    calls = []
    expected = []
    for _ in range(count):
        path, other = (dice.choice(dice.choice([PATHS, MORE, ODD, sorted(model.tree) or [b""]])) for _ in range(2))
        start, most = (dice.choice([0, 1, 3, 100, 255, 1000000]) for _ in range(2))
        call, answer = dice.choice([
            (kind(path), lambda: model.kind(path)), (size(path), lambda: model.size(path)),
            (read(path, start, most), lambda: model.read(path, start, most)),
            (same(path, other), lambda: model.same(path, other)), (names(path), lambda: model.names(path)),
            (following(path), lambda: model.following(path)),
        ])
        calls.append(call)
        expected.append(answer())
    return calls, expected


class TestModel(unittest.TestCase):
    def check(self, dice, *feeds):
        stream = b"".join(feeds)
        model = Model(stream)
        paths = [PATHS, MORE, ODD]
        for some in paths:
            calls = [STATE] + [kind(path) for path in some] + [size(path) for path in some]
            expected = [model.state()] + [model.kind(path) for path in some] + [model.size(path) for path in some]
            told = ask(*[feed(part) for part in feeds], *calls)
            self.assertEqual(told[len(feeds):], expected, stream)
            self.assertEqual(told[len(feeds) - 1], [0, *model.fault])
        calls, expected = random_questions(dice, model, 30)
        told = ask(*[feed(part) for part in feeds], WRITE, *calls)
        self.assertEqual(told[len(feeds):], [model.write(), *expected], stream)
        return model

    def test_random_streams(self):
        dice = random.Random(20)
        codes = {}
        for _ in range(900):
            stream = random_stream(dice)
            cuts = sorted(dice.randrange(len(stream) + 1) for _ in range(dice.randrange(4)))
            borders = [0, *cuts, len(stream)]
            feeds = [stream[first:second] for first, second in zip(borders, borders[1:])]
            code = self.check(dice, *feeds).fault[0]
            codes[code] = codes.get(code, 0) + 1
        # The streams are worth something only if they come to every end.
        for code in range(7):
            self.assertGreater(codes.get(code, 0), 8, codes)

    def test_every_random_tree_comes_back(self):
        dice = random.Random(22)
        for _ in range(60):
            stream = random_stream(dice)
            model = Model(stream)
            back = written(stream)
            self.assertEqual(last_state(back), [0, 0, len(back), 1, *model.state()[4:]])
            self.assertEqual(written(back), back)
            calls = about(dice.sample(sorted(model.tree), min(6, len(model.tree))) + [dice.choice(ODD)])
            self.assertEqual(ask_behind([feed(back)], calls), ask_behind([feed(stream)], calls))

    def test_every_prefix_of_random_streams(self):
        dice = random.Random(21)
        for _ in range(6):
            stream = random_stream(dice)[:1500]
            for cut in range(len(stream) + 1):
                model = Model(stream[:cut])
                self.assertEqual(ask(feed(stream[:cut]), STATE, WRITE)[1:], [model.state(), model.write()])


if __name__ == "__main__":
    unittest.main()
