"""Streams and calls for the tests: items, ends, and answers taken apart."""

from firsttree.desk import answers

FILE = 0x81A4
DIRECTORY = 0x41ED
LINK = 0xA1FF
NAME = b"TRAILER!!!"


def zeros(length):
    return bytes(-length % 4)


def head(mode=FILE, size=0, length=2, serial=0, names=1, major=0, minor=0, other=0, digits="%08X"):
    numbers = [serial, mode, other, other, names, other, size, major, minor, other, other, length, other]
    return b"070701" + "".join(digits % number for number in numbers).encode()


def start(name, mode, size, **rest):
    """An item's head and name, without the bytes 0 behind them."""
    return head(mode, size, length=len(name) + 1, **rest) + name + b"\0"


def bare(name, mode, data=b"", **rest):
    """An item without the bytes 0 behind its data."""
    first = start(name, mode, len(data), **rest)
    if not data:
        return first
    return first + zeros(len(first)) + data


def item(name, mode, data=b"", **rest):
    first = start(name, mode, len(data), **rest)
    return first + zeros(len(first)) + data + zeros(len(data))


def file(name, data=b"", **rest):
    return item(name, FILE, data, **rest)


def shared(name, data=b"", serial=7, names=2, **rest):
    return item(name, FILE, data, serial=serial, names=names, **rest)


def directory(name, **rest):
    return item(name, DIRECTORY, **rest)


def link(name, text, **rest):
    return item(name, LINK, text, **rest)


def end(mode=0, **rest):
    return start(NAME, mode, 0, **rest)


RESET = [1]
STATE = [3]
WRITE = [10]


def feed(data):
    return [2, len(data), *data]


def kind(path):
    return [4, len(path), *path]


def size(path):
    return [5, len(path), *path]


def read(path, start=0, most=1000000):
    return [6, start, most, len(path), *path]


def same(path, other):
    return [7, len(path), *path, len(other), *other]


def following(path):
    return [8, len(path), *path]


def names(path):
    return [9, len(path), *path]


def ask(*calls):
    """The answers to these calls on one object, a list each."""
    handed = [number for call in calls for number in call]
    assert len(calls) <= 40 and len(handed) <= 8500
    told = answers(handed)
    parts = []
    while told:
        count = told[0]
        assert count == len(told[1:1 + count])
        parts.append(told[1:1 + count])
        told = told[1 + count:]
    assert len(parts) == len(calls)
    return parts


def fault(data):
    """Code and place behind this stream, as feed and state tell them."""
    fed, state = ask(feed(data), STATE)
    assert fed == state[:3]
    return tuple(fed[1:])


def last(stream, *calls):
    """The answers to these calls behind this stream."""
    return ask(feed(stream), *calls)[1:]


def written(stream):
    """The archive that write answers behind this stream."""
    told = last(stream, WRITE)[0]
    assert told[0] == 0
    return bytes(told[1:])


def about(paths):
    """Every question about these paths, and about each two of them."""
    calls = [call for path in paths for call in (
        kind(path), size(path), read(path), read(path, 1, 2), following(path), names(path),
    )]
    return calls + [same(path, other) for path in paths for other in paths]


def lists_of(calls, begun=0):
    """The calls cut into stretches that each go into one list: 40 calls in all, 8000 numbers in rows."""
    stretches = [[]]
    for call in calls:
        stretch = stretches[-1]
        if len(stretch) == 32 or begun + sum(map(len, stretch)) + len(call) > 8000:
            stretches.append([])
        stretches[-1].append(call)
    return stretches


def ask_behind(before, calls):
    """The answers to these calls, however many, each behind the calls before."""
    begun = sum(map(len, before))
    return [told for stretch in lists_of(calls, begun) for told in ask(*before, *stretch)[len(before):]]
